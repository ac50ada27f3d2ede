import PyProof.Rows.All
import Wide.All
import OpenK.AllK
import Wide.FinOn
import Lean
import PyProof.EqAt
import PyProof.EqKinds
import PyProof.TupleCall
import PyProof.StationsW
import PyProof.ExcAttrAll.ValueError
import PySem.Challenge.RW_lugtrain_k22_boxes_refused

set_option Elab.async false
set_option linter.all false
set_option maxRecDepth 100000
/-! THE HAND LAYER, for ints, bools, texts, own classes, LISTS and tuples (index, slices, in, append, pop ..), calls, loops. Paste it whole ahead of your own text; what your proof does not reach may be deleted. -/
namespace L2
open PySem PySem.Spec PyProof.Rows

/-- a key: an int or a str -/
abbrev Key := Sum Int Str
def keyIs : Key → Value → Bool
  | .inl k, v => Value.isInt k v
  | .inr x, v => Value.isStrOf x v
def keyH (w : World) : Key → Int
  | .inl k => hashInt k
  | .inr x => hashStr w x
theorem keyIs_shape : ∀ {k : Key} {v : Value}, keyIs k v = true → (∃ i t, k = Sum.inl i ∧ v = Value.int i t) ∨ (∃ x t, k = Sum.inr x ∧ v = Value.str x t)
  | .inl i, v, h => by
    obtain ⟨t, e⟩ := Value.isInt_shape (k := i) (v := v) h
    exact .inl ⟨i, t, rfl, e⟩
  | .inr x, v, h => by
    obtain ⟨t, e⟩ := Value.isStrOf_shape (x := x) (v := v) h
    exact .inr ⟨x, t, rfl, e⟩
theorem key_ll (a b : Int) : decide ((Sum.inl a : Key) = Sum.inl b) = (a == b) := by
  by_cases e : a = b
  · subst e; simp
  · have h : ¬ (Sum.inl a : Key) = Sum.inl b := fun q => e (Sum.inl.inj q)
    rw [decide_eq_false h]
    exact (beq_eq_false_iff_ne.mpr e).symm
theorem key_rr (a b : Str) : decide ((Sum.inr a : Key) = Sum.inr b) = decide (a = b) := by
  by_cases e : a = b
  · subst e; simp
  · have h : ¬ (Sum.inr a : Key) = Sum.inr b := fun q => e (Sum.inr.inj q)
    rw [decide_eq_false h, decide_eq_false e]
theorem key_lr (a : Int) (b : Str) : decide ((Sum.inl a : Key) = Sum.inr b) = false := decide_eq_false (fun q => nomatch q)
theorem key_rl (a : Str) (b : Int) : decide ((Sum.inr a : Key) = Sum.inl b) = false := decide_eq_false (fun q => nomatch q)

def mixKind (prog : Program) (w : World) : PySem.KeyKind prog w Key where
  is := keyIs
  hash := keyH w
  inj := fun v a b ha hb => by
    rcases keyIs_shape ha with ⟨i, t, rfl, rfl⟩ | ⟨x, t, rfl, rfl⟩
    · rcases keyIs_shape hb with ⟨j, u, rfl, e⟩ | ⟨y, u, rfl, e⟩
      · injection e with e1 _; rw [e1]
      · exact nomatch e
    · rcases keyIs_shape hb with ⟨j, u, rfl, e⟩ | ⟨y, u, rfl, e⟩
      · exact nomatch e
      · injection e with e1 _; rw [e1]
  byValue := fun k v h => by
    rcases keyIs_shape h with ⟨i, t, rfl, rfl⟩ | ⟨x, t, rfl, rfl⟩ <;> rfl
  pyHash := fun hv h => by
    rcases keyIs_shape hv with ⟨i, t, rfl, rfl⟩ | ⟨x, t, rfl, rfl⟩
    · exact wpAny_pyHash_int h
    · exact wpAny_pyHash_str h
  eqBool := fun hu hv h => by
    rcases keyIs_shape hu with ⟨i, t, rfl, rfl⟩ | ⟨x, t, rfl, rfl⟩
    · rcases keyIs_shape hv with ⟨j, u, rfl, rfl⟩ | ⟨y, u, rfl, rfl⟩
      · rw [key_ll] at h; exact wpAny_eqBool_int h
      · rw [key_lr] at h; exact SeqAt.EqAt.int_str i t y u _ _ _ _ h
    · rcases keyIs_shape hv with ⟨j, u, rfl, rfl⟩ | ⟨y, u, rfl, rfl⟩
      · rw [key_rl] at h; exact SeqAt.EqAt.str_int x t j u _ _ _ _ h
      · rw [key_rr] at h; exact wpAny_eqBool_str h
  «strs» := fun k x t v h => by
    rcases keyIs_shape h with ⟨i, u, rfl, e⟩ | ⟨y, u, rfl, e⟩
    · exact nomatch e
    · injection e with e1 _
      subst e1
      cases v <;> rfl

end L2

namespace L2
open PySem PySem.Spec PyProof.Rows

/-- a value, without the heap -/
inductive V where
  | non | bl (b : Bool) | int (i : Int) | str (x : Str) | byt (b : Array UInt8) | flt (b : UInt64) | ref (a : Addr) | ty (n : String)
  deriving DecidableEq

def RelV : V → Value → Prop
  | .non, u => u = Value.none
  | .bl b, u => u = Value.bool b
  | .int i, u => ∃ t, u = Value.int i t
  | .str x, u => ∃ t, u = Value.str x t
  | .byt b, u => ∃ t, u = Value.bytes b t
  | .flt b, u => ∃ t, u = Value.float b t
  | .ref a, u => u = Value.ref a
  | .ty n, u => u = Value.type n

abbrev Vals : List V → List Value → Prop := Paired RelV
theorem Vals.length {xs : List V} {us : List Value} (r : Vals xs us) : xs.length = us.length := Paired.length r
theorem Vals.get : ∀ {xs : List V} {us : List Value} {i : Nat} {x : V}, Vals xs us → xs[i]? = some x → ∃ u, us[i]? = some u ∧ RelV x u
  | _, _, _, _, .nil, e => by simp at e
  | _, _, 0, _, .cons r _, e => by simp at e; subst e; exact ⟨_, rfl, r⟩
  | _, _, i + 1, x, .cons _ t, e => by
    obtain ⟨u, h1, h2⟩ := Vals.get (i := i) (x := x) t (by simpa using e)
    exact ⟨u, by simpa using h1, h2⟩
theorem Vals.set {x : V} {u : Value} (r : RelV x u) : ∀ {xs : List V} {us : List Value} (i : Nat), Vals xs us → Vals (xs.set i x) (us.set i u)
  | _, _, _, .nil => .nil
  | _, _, 0, .cons _ t => .cons r t
  | _, _, i + 1, .cons q t => .cons q (Vals.set r i t)
theorem Vals.append : ∀ {xs ys : List V} {us ws : List Value}, Vals xs us → Vals ys ws → Vals (xs ++ ys) (us ++ ws)
  | _, _, _, _, .nil, s => s
  | _, _, _, _, .cons r t, s => .cons r (Vals.append t s)
theorem Vals.take : ∀ {xs : List V} {us : List Value} (n : Nat), Vals xs us → Vals (xs.take n) (us.take n)
  | _, _, 0, _ => .nil
  | _, _, _ + 1, .nil => .nil
  | _, _, n + 1, .cons r t => .cons r (Vals.take n t)
theorem Vals.drop : ∀ {xs : List V} {us : List Value} (n : Nat), Vals xs us → Vals (xs.drop n) (us.drop n)
  | _, _, 0, r => r
  | _, _, _ + 1, .nil => .nil
  | _, _, n + 1, .cons _ t => Vals.drop n t
def RelO : Option V → Option Value → Prop
  | some v, some u => RelV v u
  | none, none => True
  | _, _ => False
def KV {κ : Type} : List (κ × V) → List (κ × Value) → Prop := Paired fun (p : κ × V) (q : κ × Value) => p.1 = q.1 ∧ RelV p.2 q.2

/-- a key of a dict (00_mix): an int or a text -/
def kV : Key → V
  | .inl i => .int i
  | .inr x => .str x

/-- what stands at a tracked address -/
inductive HO where
  /-- a list -/
  | lst (xs : List V)
  /-- a tuple (never changes) -/
  | tup (xs : List V)
  /-- a dict whose keys are ints and texts; one whose keys are tuples of ints and texts (the empty one is both) -/
  | dK (kvs : List (Key × V)) | dT (kvs : List (List Key × V))
  /-- a set of ints: its members, its size -/
  | set (S : Int → Bool) (n : Nat)
  /-- an instance of the class at C, its dict at dx, its attributes -/
  | ins (C dx : Addr) (fs : List (Str × V))
  /-- the dict of the instance at x -/
  | own (x : Addr)
  /-- the dict of an exception -/
  | xd (fs : List (Str × V))
  /-- a bound method, f of x -/
  | met (f x : Addr)
  /-- a range object lo, lo + 1, .. below hi -/
  | rng (lo hi : Int)
  /-- a thing that is known to the object (the script; a dict while a loop walks it): read, never written while it is so -/
  | frz (o : Obj) (u : HO)
  /-- a code object's table -/
  | tbl (ps : Array Value)
  /-- any other thing, by what is true of its one object (a def of one's own: SetO a S n := HO.ext fun h => ..) -/
  | ext (φ : Heap → Prop)

abbrev Hp := Addr → Option HO
def upd (H : Hp) (a : Addr) (o : HO) : Hp := fun b => if b = a then some o else H b
theorem upd_same {H : Hp} {a : Addr} {o : HO} : upd H a o a = some o := by unfold upd; rw [if_pos rfl]
theorem upd_ne {H : Hp} {a b : Addr} {o : HO} (h : b ≠ a) : upd H a o b = H b := by unfold upd; rw [if_neg h]
theorem ne_of_none {H : Hp} {a b : Addr} {o : HO} (h : H a = some o) (h' : H b = none) : a ≠ b := by
  intro e; subst e; rw [h] at h'; cases h'

section
variable (P : Program) (w : World)
def ObjOk (H : Hp) (h : Heap) (a : Addr) : HO → Prop
  | .lst xs => xs.length ≤ sizeLine ∧ ∃ (its : List Value) (n : Nat), Vals xs its ∧ h.get? a = some { cls := .type "list", data := .seq its.toArray n }
  | .tup xs => xs.length ≤ sizeLine ∧ ∃ its : List Value, Vals xs its ∧ IsTup h a its.toArray
  | .dK kvs => kvs.length ≤ sizeLine ∧ (a == sysModules) = false ∧ ∃ vs, KV kvs vs ∧ h.DictOf (mixKind P w) a vs
  | .dT kvs => kvs.length ≤ sizeLine ∧ (a == sysModules) = false ∧ ∃ xs : List (List Key × Addr × Value),
      Paired (fun (p : List Key × V) (q : List Key × Addr × Value) => p.1 = q.1 ∧ H q.2.1 = some (.tup (p.1.map kV)) ∧ RelV p.2 q.2.2) kvs xs ∧
      ∃ o es ep, h.get? a = some o ∧ o.ExactDict ∧ o.data = .dict es ep ∧ es.toList = xs.map (entryOfKey (tupleKind (mixKind P w))) ∧ (xs.map (·.1)).Nodup
  | .set S n => h.SetOf (intKind P w) a S n
  | .ins C dx fs => H dx = some (.own a) ∧ fs.length ≤ 1000 ∧ dx ≠ a ∧ h.get? a = some (PySem.W.instObj C dx) ∧
      ∃ mA, h.Ns1 dx mA ∧ (∀ f, RelO (fs.lookup f) (mA f)) ∧ PySem.Within mA (fs.map (·.1))
  | .own _ => ∃ o, h.get? a = some o
  | .xd fs => ∃ mA, h.Ns1 a mA ∧ ∀ f, RelO (fs.lookup f) (mA f)
  | .rng lo hi => ∃ t u v, h.get? a = some { cls := .type "range", data := .fields #[.int lo t, .int hi u, .int 1 v] }
  | .frz o u => h.get? a = some o ∧ ObjOk H h a u
  | .tbl ps => h.get? a = some { cls := .none, data := .fields ps }
  | .met f x => h.get? a = some (PySem.W.methodObj (.ref f) (.ref x))
  | .ext φ => φ h ∧ (∃ o, h.get? a = some o) ∧ ∀ h1 h2 : Heap, φ h1 → (∀ o, h1.get? a = some o → h2.get? a = some o) → φ h2
/-- the abstract heap is held -/
def HOk (H : Hp) (h : Heap) : Prop := ∀ a o, H a = some o → ObjOk P w H h a o
end

section
variable {P : Program} {w : World} {H H' : Hp} {h h' : Heap} {a : Addr} {o : HO}
theorem ObjOk.lt (x : ObjOk P w H h a o) : a < h.objs.size := by
  cases o with
  | lst xs => obtain ⟨_, _, _, _, e⟩ := x; exact Heap.lt_size e
  | tup xs => obtain ⟨_, _, _, p⟩ := x; exact p.lt
  | dK kvs => obtain ⟨_, _, _, _, o, _, _, e, _⟩ := x; exact Heap.lt_size e
  | dT kvs => obtain ⟨_, _, _, _, o, _, _, e, _⟩ := x; exact Heap.lt_size e
  | set S n => obtain ⟨o, _, _, _, e, _⟩ := x; exact Heap.lt_size e
  | ins C dx fs => obtain ⟨_, _, _, e, _⟩ := x; exact Heap.lt_size e
  | own y => obtain ⟨_, e⟩ := x; exact Heap.lt_size e
  | xd fs => obtain ⟨_, ⟨_, _, _, e, _⟩, _⟩ := x; exact Heap.lt_size e
  | rng lo hi => obtain ⟨_, _, _, e⟩ := x; exact Heap.lt_size e
  | frz ob u => obtain ⟨e, _⟩ := x; exact Heap.lt_size e
  | tbl ps => exact Heap.lt_size (show h.get? a = some _ from x)
  | met f y => exact Heap.lt_size (show h.get? a = some _ from x)
  | ext φ => obtain ⟨_, ⟨_, e⟩, _⟩ := x; exact Heap.lt_size e
theorem Paired.mapP {α β : Type} {F G : α → β → Prop} : ∀ {l₁ : List α} {l₂ : List β}, Paired F l₁ l₂ → (∀ a b, F a b → G a b) → Paired G l₁ l₂
  | _, _, .nil, _ => .nil
  | _, _, .cons r t, f => .cons (f _ _ r) (Paired.mapP t f)
/-- what an object's description leans on: its own object, its own dict, the tuples -/
theorem ObjOk.stay (x : ObjOk P w H h a o) (k : ∀ b u, (b = a ∨ H b = some (.own a)) → h.get? b = some u → h'.get? b = some u)
    (ho : ∀ b, H b = some (.own a) → H' b = some (.own a)) (ht : ∀ b xs, H b = some (.tup xs) → H' b = some (.tup xs)) : ObjOk P w H' h' a o := by
  induction o with
  | lst xs => obtain ⟨z, its, n, r, e⟩ := x; exact ⟨z, its, n, r, k _ _ (.inl rfl) e⟩
  | tup xs => obtain ⟨z, its, r, ob, e, c⟩ := x; exact ⟨z, its, r, ob, k _ _ (.inl rfl) e, c⟩
  | dK kvs => obtain ⟨z, y, vs, r, ob, es, ep, e, c⟩ := x; exact ⟨z, y, vs, r, ob, es, ep, k _ _ (.inl rfl) e, c⟩
  | dT kvs =>
    obtain ⟨z, y, xs, r, ob, es, ep, e, c⟩ := x
    exact ⟨z, y, xs, Paired.mapP r fun p q z => ⟨z.1, ht _ _ z.2.1, z.2.2⟩, ob, es, ep, k _ _ (.inl rfl) e, c⟩
  | set S n => obtain ⟨ob, es, ep, t, e, c⟩ := x; exact ⟨ob, es, ep, t, k _ _ (.inl rfl) e, c⟩
  | ins C dx fs =>
    obtain ⟨d, z, ne, e, mA, ⟨od, es, ep, e2, c⟩, r⟩ := x
    exact ⟨ho _ d, z, ne, k _ _ (.inl rfl) e, mA, ⟨od, es, ep, k _ _ (.inr d) e2, c⟩, r⟩
  | own y => obtain ⟨ob, e⟩ := x; exact ⟨ob, k _ _ (.inl rfl) e⟩
  | xd fs => obtain ⟨mA, ⟨od, es, ep, e, c⟩, r⟩ := x; exact ⟨mA, ⟨od, es, ep, k _ _ (.inl rfl) e, c⟩, r⟩
  | rng lo hi => obtain ⟨t, u, v, e⟩ := x; exact ⟨t, u, v, k _ _ (.inl rfl) e⟩
  | frz ob u ih => obtain ⟨e, q⟩ := x; exact ⟨k _ _ (.inl rfl) e, ih q⟩
  | tbl ps =>
    have e : h.get? a = some { cls := .none, data := .fields ps } := x
    show h'.get? a = some { cls := .none, data := .fields ps }
    exact k a _ (.inl rfl) e
  | met f y =>
    have e : h.get? a = some (PySem.W.methodObj (.ref f) (.ref y)) := x
    show h'.get? a = some (PySem.W.methodObj (.ref f) (.ref y))
    exact k a _ (.inl rfl) e
  | ext φ => obtain ⟨p, ⟨o, e⟩, st⟩ := x; exact ⟨st _ _ p fun o q => k _ _ (.inl rfl) q, ⟨o, k _ _ (.inl rfl) e⟩, st⟩
theorem HOk.lt (x : HOk P w H h) (e : H a = some o) : a < h.objs.size := (x a o e).lt
theorem HOk.fresh (x : HOk P w H h) (e : h.objs.size ≤ a) : H a = none := by
  cases q : H a with
  | none => rfl
  | some u => exact absurd (Nat.lt_of_lt_of_le (x.lt q) e) (Nat.lt_irrefl _)
/-- every object of the heap is kept -/
theorem HOk.kept (x : HOk P w H h) (k : ∀ b u, h.get? b = some u → h'.get? b = some u) : HOk P w H h' := fun a o e =>
  (x a o e).stay (fun b u _ q => k b u q) (fun _ q => q) fun _ _ q => q
/-- a new object is laid and tracked -/
theorem HOk.laid (x : HOk P w H h) (k : ∀ b u, h.get? b = some u → h'.get? b = some u) (hp : h.objs.size ≤ a) (new : ObjOk P w (upd H a o) h' a o) : HOk P w (upd H a o) h' := fun b u e => by
  have hn := x.fresh hp
  by_cases hb : b = a
  · subst hb; rw [upd_same] at e; cases e; exact new
  · rw [upd_ne hb] at e
    exact (x b u e).stay (fun c v _ q => k c v q) (fun c q => by rw [upd_ne (ne_of_none q hn)]; exact q) fun c xs q => by rw [upd_ne (ne_of_none q hn)]; exact q
end

/-- what may be read as u: it is u, or a known u -/
def Rd (H : Hp) (a : Addr) (u : HO) : Prop := H a = some u ∨ ∃ o, H a = some (.frz o u)
theorem Rd.ok {P : Program} {w : World} {H : Hp} {h : Heap} {a : Addr} {u : HO} (r : Rd H a u) (x : HOk P w H h) : ObjOk P w H h a u := by
  rcases r with r | ⟨o, r⟩
  · exact x a u r
  · obtain ⟨_, q⟩ := x a _ r
    exact q
/-- what may be written -/
def Mut : Option HO → Prop
  | some (.lst _) => True
  | some (.dK _) => True
  | some (.dT _) => True
  | some (.set _ _) => True
  | some (.ins _ _ _) => True
  | some (.ext _) => True
  | _ => False
section
variable {P : Program} {w : World} {H : Hp} {h h' : Heap} {x e : Addr} {o' : HO}
/-- the object at e is changed: x itself, or the dict of the instance x -/
theorem HOk.write (ok : HOk P w H h) (mu : Mut (H x)) (he : e = x ∨ H e = some (.own x)) (k : ∀ b u, b ≠ e → h.get? b = some u → h'.get? b = some u) (heo : ∃ u, h'.get? e = some u)
    (new : ObjOk P w (upd H x o') h' x o') : HOk P w (upd H x o') h' := fun b u q => by
  have nown : ∀ c y, H c = some (.own y) → c ≠ x := fun c y r z => by subst z; rw [r] at mu; exact mu
  have ntup : ∀ c xs, H c = some (.tup xs) → c ≠ x := fun c xs r z => by subst z; rw [r] at mu; exact mu
  by_cases hb : b = x
  · subst hb; rw [upd_same] at q; cases q; exact new
  · rw [upd_ne hb] at q
    by_cases hbe : b = e
    · have q' : H b = some (.own x) := by
        rcases he with z | z
        · exact absurd (hbe.trans z) hb
        · rw [hbe]; exact z
      rw [q] at q'; cases q'
      obtain ⟨v, hv⟩ := heo
      exact ⟨v, by rw [hbe]; exact hv⟩
    · refine (ok b u q).stay (fun c v hc r => k c v ?_ r) (fun c r => by rw [upd_ne (nown c b r)]; exact r) fun c xs r => by rw [upd_ne (ntup c xs r)]; exact r
      rcases hc with rfl | hc
      · exact hbe
      · rintro rfl
        rcases he with z | z
        · exact nown c b hc z
        · rw [hc] at z; cases z; exact hb rfl
end

/-! ### kept unless tracked; of the frames at fs (the callers') the slots may change (an exception that passes writes there); of the records at ex (iterators) nothing is said -/
structure Un (fs ex : List Addr) (H H' : Hp) (h h' : Heap) : Prop where
  keep : ∀ b o, h.get? b = some o → H b = none → b ∉ fs → b ∉ ex → h'.get? b = some o
  slot : ∀ b o, h.get? b = some o → H b = none → b ∈ fs → b ∉ ex → ∃ sl, h'.get? b = some { o with slots := sl }
  free : ∀ b o, h.get? b = some o → H b = none → b ∉ ex → H' b = none
  there : ∀ b o, h.get? b = some o → b ∉ ex → ∃ o', h'.get? b = some o'
  tups : ∀ b xs, H b = some (.tup xs) → H' b = some (.tup xs)
  frzs : ∀ b o u, H b = some (.frz o u) → H' b = some (.frz o u)
  tbls : ∀ b ps, H b = some (.tbl ps) → ∃ more, H' b = some (.tbl (ps ++ more))
section
variable {fs fs' ex ex' : List Addr} {H H1 H2 : Hp} {h h1 h2 h' : Heap} {a x e : Addr} {o : HO}
theorem Un.any (u : Un fs ex H H1 h h1) {b : Addr} {ob : Obj} (q : h.get? b = some ob) (n : H b = none) (hx : b ∉ ex) : ∃ sl, h1.get? b = some { ob with slots := sl } := by
  by_cases hb : b ∈ fs
  · exact u.slot b ob q n hb hx
  · exact ⟨ob.slots, u.keep b ob q n hb hx⟩
theorem Un.kept (k : ∀ b u, h.get? b = some u → h'.get? b = some u) : Un fs ex H H h h' :=
  ⟨fun b ob q _ _ _ => k b ob q, fun b ob q _ _ _ => ⟨ob.slots, k b ob q⟩, fun _ _ _ n _ => n, fun b ob q _ => ⟨ob, k b ob q⟩, fun _ _ q => q, fun _ _ _ q => q, fun _ ps q => ⟨#[], by rw [q]; simp⟩⟩
theorem Un.refl : Un fs ex H H h h := Un.kept fun _ _ q => q
theorem Un.laid (k : ∀ b u, h.get? b = some u → h'.get? b = some u) (hp : h.objs.size ≤ a) (hn : H a = none) : Un fs ex H (upd H a o) h h' where
  keep := fun b u q _ _ _ => k b u q
  slot := fun b u q _ _ _ => ⟨u.slots, k b u q⟩
  free := fun b u q n _ => by rw [upd_ne (Nat.ne_of_lt (Nat.lt_of_lt_of_le (Heap.lt_size q) hp))]; exact n
  there := fun b u q _ => ⟨u, k b u q⟩
  tups := fun b xs q => by rw [upd_ne (ne_of_none q hn)]; exact q
  frzs := fun b u xs q => by rw [upd_ne (ne_of_none q hn)]; exact q
  tbls := fun b ps q => ⟨#[], by rw [upd_ne (ne_of_none q hn), q]; simp⟩
theorem Un.write (mu : Mut (H x)) (he : e = x ∨ H e = some (.own x)) (k : ∀ b u, b ≠ e → h.get? b = some u → h'.get? b = some u) (heo : ∃ u, h'.get? e = some u) : Un fs ex H (upd H x o) h h' := by
  have hx : ∀ b, H b = none → b ≠ x := fun b n z => by subst z; rw [n] at mu; exact mu
  have hb : ∀ b, H b = none → b ≠ e := fun b n z => by
    subst z
    rcases he with r | r
    · exact hx b n r
    · rw [n] at r; cases r
  have hm : ∀ b u, H b = some u → ¬ Mut (some u) → b ≠ x := fun b u q nm z => by subst z; rw [q] at mu; exact nm mu
  refine ⟨fun b u q n _ _ => k b u (hb b n) q, fun b u q n _ _ => ⟨u.slots, k b u (hb b n) q⟩, fun b u q n _ => by rw [upd_ne (hx b n)]; exact n, fun b u q _ => ?_,
    fun b xs q => by rw [upd_ne (hm b _ q fun z => z)]; exact q, fun b u xs q => by rw [upd_ne (hm b _ q fun z => z)]; exact q, fun b ps q => ⟨#[], by rw [upd_ne (hm b _ q fun z => z), q]; simp⟩⟩
  by_cases hbe : b = e
  · subst hbe; exact heo
  · exact ⟨u, k b u hbe q⟩
end

/-! ### the heap without what is tracked -/
def trk (h : Heap) (H : Hp) : List Addr := (List.range h.objs.size).filter fun a => (H a).isSome
def hidT (h : Heap) (H : Hp) : Heap := PySem.W.hideAll h (trk h H)
theorem hidT_size (h : Heap) (H : Hp) : (hidT h H).objs.size = h.objs.size := PySem.W.hideAll_size _ _
theorem hidT_get {h : Heap} {H : Hp} {b : Addr} {o : Obj} (e : h.get? b = some o) (n : H b = none) : (hidT h H).get? b = some o :=
  PySem.W.hideAll_get _ e fun hm => by
    have q : (H b).isSome = true := (List.mem_filter.mp hm).2
    rw [n] at q; simp at q
theorem of_hidT {h : Heap} {H : Hp} {b : Addr} {o : Obj} (e : (hidT h H).get? b = some o) : h.get? b = some o ∧ H b = none := by
  have e' : h.get? b = some o := PySem.W.of_hideAll (trk h H) e
  refine ⟨e', ?_⟩
  cases q : H b with
  | none => rfl
  | some x =>
    have hm : b ∈ trk h H := List.mem_filter.mpr ⟨List.mem_range.mpr (Heap.lt_size e'), by simp [q]⟩
    have z : (hidT h H).get? b = none := PySem.W.hideAll_none (trk h H) hm
    rw [z] at e; cases e

/-! ### OpenK's ledger, filled with every new object but one -/
def allNews (g h : Heap) (L : Addr) : List (Addr × Obj) := (List.range h.objs.size).filterMap fun a => if a = L ∨ (g.get? a).isSome = true then none else (h.get? a).map fun o => (a, o)
def rest (g h : Heap) (L d : Addr) : List (Addr × Obj) := (allNews g h L).filter fun p => decide (p.1 ≠ d)
end L2

namespace L2
open PySem PySem.Spec PyProof.Rows

/-- the module's facts, over the base: the heap at the law's entry without what is tracked there -/
structure Mod (K : PySem.W.Frag) (mg : Str → Option Value) (base : Heap) : Prop where
  kin : K.In base
  glob : base.Ns mainGlobals mg
  blt : ∃ mb, base.Ns builtinsNs mb ∧ ∀ x : Str, x ≠ "__name__" → mb x = bootBuiltins x
  nolimit : base.NoLimit

/-- the context: a def's body (or a comprehension's block) running. base: fixed through the whole law; s₀, H₀: the entry; outer: the frames whose slots others may change (a def's callers); stack: all frames that run;
   ex: iterators that were made ahead of the entry and are walked here (a comprehension's); fn: the names whose cells were made at the entry (a def: all; a comprehension's block: its own); calm: not within an except suite; pn: pins that every state bears; xe: what is wanted of an exception that leaves the code -/
structure Cx where
  prog : Program
  w : World
  K : PySem.W.Frag
  mg : Str → Option Value
  base : Heap
  A : Around
  N : List Str
  s₀ : Shared
  H₀ : Hp
  env : Env
  outer : List Env
  stack : List Env
  ex : List Addr
  fn : Str → Bool
  calm : Bool
  pn : List (Addr × Obj)
  xe : Value → Shared → Prop
/-- the callers' frames -/
def frs (l : List Env) : List Addr := l.filterMap (·.frame)
abbrev Cx.fs (X : Cx) : List Addr := frs X.outer

def Vis (sc : Scope) (x : Str) : Prop := sc.names.lookup x = some .local ∨ sc.names.lookup x = some .cell ∨ sc.names.lookup x = some .free
def Loc (sc : Scope) (x : Str) : Prop := sc.names.lookup x = some .local ∨ sc.names.lookup x = some .cell
def Look (env : Env) (h : Heap) (m : Str → Option Value) (x : Str) (u : Value) : Prop :=
  (env.kindOf x = some .local ∧ m x = some u) ∨ ((env.kindOf x = some .cell ∨ env.kindOf x = some .free) ∧ ∃ c, env.cells.lookup x = some c ∧ h.IsCell c (some u))

structure Cx.Ok (X : Cx) : Prop where
  mod : Mod X.K X.mg X.base
  kind : X.env.scope.kind = .function
  glob : X.env.globals = mainGlobals
  blt : X.env.builtins = builtinsNs
  above : X.s₀.heap.objs.size ≤ X.env.locals
  inj : ∀ x y c, X.env.cells.lookup x = some c → X.env.cells.lookup y = some c → x = y
  has : ∀ x, (X.env.kindOf x = some .cell ∨ X.env.kindOf x = some .free) → ∃ c, X.env.cells.lookup x = some c
  cab : ∀ x c, X.fn x = true → X.env.cells.lookup x = some c → X.s₀.heap.objs.size ≤ c
  hd : X.calm = true → X.A.handled = none
  frames : X.A.frames = some X.stack
  stk : X.stack = X.outer ∨ (X.stack = X.env :: X.outer ∧ X.env.frame = some X.env.locals)
  exf : ∀ b ∈ X.ex, b ≠ X.env.locals ∧ ∀ x c, X.env.cells.lookup x = some c → c ≠ b
  bs : ∀ b o, X.base.get? b = some o → X.s₀.heap.get? b = some o ∧ X.H₀ b = none
  bsz : X.base.objs.size ≤ X.s₀.heap.objs.size
  noex : ∀ b o, X.base.get? b = some o → b ∉ X.ex
  exfs : ∀ b ∈ X.ex, b ∉ X.fs
  funs : X.s₀.heap.FunFrames X.base X.outer
  frf : ∀ b ∈ X.fs, X.H₀ b = none

structure Inv (X : Cx) (pins : List (Addr × Obj)) (σ : List (Option V)) (H : Hp) (s : Shared) : Prop where
  ok : X.Ok
  os : s.os = X.s₀.os
  bare : AllBare s.gens
  base : Un X.fs X.ex X.H₀ H X.s₀.heap s.heap
  loc : ∃ m, s.heap.Ns X.env.locals m ∧ ∀ (i : Nat) (x : Str) (v : V), X.N[i]? = some x → σ[i]? = some (some v) → Vis X.env.scope x → ∃ u, RelV v u ∧ Look X.env s.heap m x u
  cell : ∀ x c, X.env.cells.lookup x = some c → ∃ v, s.heap.IsCell c v
  free : H X.env.locals = none
  freeC : ∀ x c, X.env.cells.lookup x = some c → H c = none
  pin : ∀ p ∈ X.pn ++ pins, s.heap.get? p.1 = some p.2 ∧ H p.1 = none ∧ p.1 ≠ X.env.locals ∧ p.1 ∉ X.fs ∧ ∀ v, p.2.data ≠ .cell v
  hok : HOk X.prog X.w H s.heap
  len : σ.length = X.N.length

section
variable {X : Cx} {pins : List (Addr × Obj)} {σ : List (Option V)} {H H' : Hp} {s : Shared} {h' : Heap}

theorem Cx.Ok.nofr (ok : X.Ok) {b : Addr} {o : Obj} (e : X.base.get? b = some o) : b ∉ X.fs := fun hb => by
  have := (ok.funs.mem hb).1
  rw [e] at this; cases this
theorem Inv.bs (I : Inv X pins σ H s) : ∀ b o, X.base.get? b = some o → s.heap.get? b = some o ∧ H b = none := fun b o e =>
  ⟨I.base.keep b o (I.ok.bs b o e).1 (I.ok.bs b o e).2 (I.ok.nofr e) (I.ok.noex b o e), I.base.free b o (I.ok.bs b o e).1 (I.ok.bs b o e).2 (I.ok.noex b o e)⟩
theorem Inv.bk (I : Inv X pins σ H s) : ∀ b o, X.base.get? b = some o → s.heap.get? b = some o := fun b o e => (I.bs b o e).1
theorem Inv.mod (I : Inv X pins σ H s) : Mod X.K X.mg X.base := I.ok.mod
theorem Inv.kIn (I : Inv X pins σ H s) : X.K.In s.heap := I.ok.mod.kin.keeps I.bk
theorem Inv.lt (I : Inv X pins σ H s) : X.env.locals < s.heap.objs.size := let ⟨_, hn, _⟩ := I.loc; hn.lt
theorem Inv.sz (I : Inv X pins σ H s) : X.s₀.heap.objs.size ≤ s.heap.objs.size := Nat.le_trans I.ok.above (Nat.le_of_lt I.lt)
theorem Inv.nofs (I : Inv X pins σ H s) {a : Addr} (h : s.heap.objs.size ≤ a) : a ∉ X.fs := fun hb => by
  obtain ⟨_, o, ho, _⟩ := I.ok.funs.mem hb
  exact absurd (Nat.lt_of_lt_of_le (Heap.lt_size ho) (Nat.le_trans I.sz h)) (Nat.lt_irrefl _)
theorem Inv.cne (I : Inv X pins σ H s) : ∀ x c, X.env.cells.lookup x = some c → c ≠ X.env.locals := fun x c e z => by
  obtain ⟨v, o, ho, hd⟩ := I.cell x c e
  obtain ⟨m, ⟨o', es, ep, ho', hd', _⟩, _⟩ := I.loc
  rw [z, ho'] at ho; cases ho; rw [hd'] at hd; cases hd
theorem Inv.funs (I : Inv X pins σ H s) : s.heap.FunFrames X.base X.outer := by
  have all : ∀ (l : List Env), (∀ b ∈ frs l, b ∈ X.fs) → X.s₀.heap.FunFrames X.base l → s.heap.FunFrames X.base l := by
    intro l
    induction l with
    | nil => intro _ _; trivial
    | cons env r ih =>
      intro hs hl
      obtain ⟨hk, ⟨L, o, hf, hn, ho, hd⟩, hr⟩ := hl
      have hL : L ∈ X.fs := hs L (by unfold frs; rw [List.filterMap_cons, hf]; exact List.mem_cons_self)
      obtain ⟨sl, e⟩ := I.base.slot L o ho (I.ok.frf L hL) hL fun z => I.ok.exfs L z hL
      exact ⟨hk, ⟨L, _, hf, hn, e, hd⟩, ih (fun b hb => hs b (by unfold frs; rw [List.filterMap_cons, hf]; exact List.mem_cons_of_mem _ hb)) hr⟩
  exact all X.outer (fun _ hb => hb) I.ok.funs

/-- the frames that run, for a call -/
theorem Inv.stack (I : Inv X pins σ H s) : s.heap.FunFrames X.base X.stack := by
  rcases I.ok.stk with e | ⟨e, hf⟩
  · rw [e]; exact I.funs
  · rw [e]
    obtain ⟨m, hn, _⟩ := I.loc
    refine .cons (by rw [I.ok.kind]; decide) hf hn ?_ I.funs
    exact Heap.get?_none_of_le (Nat.le_trans I.ok.bsz I.ok.above)
theorem Inv.stkSub (I : Inv X pins σ H s) : ∀ b ∈ frs X.stack, b ∈ X.env.locals :: X.fs := fun b hb => by
  rcases I.ok.stk with e | ⟨e, hf⟩
  · rw [e] at hb; exact List.mem_cons_of_mem _ hb
  · rw [e] at hb
    unfold frs at hb
    rw [List.filterMap_cons, hf] at hb
    exact hb
theorem Inv.stkFree (I : Inv X pins σ H s) : ∀ b ∈ frs X.stack, H b = none := fun b hb => by
  rcases List.mem_cons.mp (I.stkSub b hb) with e | hb
  · rw [e]; exact I.free
  · obtain ⟨_, o, ho, _⟩ := I.ok.funs.mem hb
    exact I.base.free b o ho (I.ok.frf b hb) fun z => I.ok.exfs b z hb

/-- THE STEP: the untracked objects but the frame and the records at ch are kept (the callers' frames up to slots), the frame's map is kept, the new abstract heap is held -/
theorem Inv.step {g' : Array GenState} {t' : Nat} {d' : Drawn} {ch : List Addr} (I : Inv X pins σ H s)
    (hch : ∀ b ∈ ch, (b ∈ X.ex ∨ X.s₀.heap.objs.size ≤ b) ∧ b ≠ X.env.locals ∧ (∀ x c, X.env.cells.lookup x = some c → c ≠ b) ∧ ∀ p ∈ X.pn ++ pins, p.1 ≠ b)
    (keep : ∀ b o, b ≠ X.env.locals → b ∉ X.fs → b ∉ ch → s.heap.get? b = some o → H b = none → h'.get? b = some o)
    (slot : ∀ b o, b ≠ X.env.locals → b ∈ X.fs → b ∉ ch → s.heap.get? b = some o → H b = none → ∃ sl, h'.get? b = some { o with slots := sl }) (free : ∀ b o, b ∉ ch → s.heap.get? b = some o → H b = none → H' b = none)
    (there : ∀ b o, b ∉ ch → s.heap.get? b = some o → ∃ o', h'.get? b = some o')
    (tups : ∀ b xs, H b = some (.tup xs) → H' b = some (.tup xs)) (frzs : ∀ b o u, H b = some (.frz o u) → H' b = some (.frz o u)) (tbls : ∀ b ps, H b = some (.tbl ps) → ∃ more, H' b = some (.tbl (ps ++ more)))
    (ns : ∀ m, s.heap.Ns X.env.locals m → h'.Ns X.env.locals m) (hok : HOk X.prog X.w H' h') (hg : AllBare g') :
    Inv X pins σ H' { s with heap := h', gens := g', drawn := d', toks := t' } := by
  have neL : ∀ b o, X.s₀.heap.get? b = some o → b ≠ X.env.locals := fun b o e => Nat.ne_of_lt (Nat.lt_of_lt_of_le (Heap.lt_size e) I.ok.above)
  have neC : ∀ b o, X.s₀.heap.get? b = some o → b ∉ X.ex → b ∉ ch := fun b o e hx hb => by
    rcases (hch b hb).1 with z | z
    · exact hx z
    · exact absurd (Nat.lt_of_lt_of_le (Heap.lt_size e) z) (Nat.lt_irrefl _)
  have cellK : ∀ x c, X.env.cells.lookup x = some c → ∀ v, s.heap.IsCell c v → h'.IsCell c v := fun x c e v ⟨o, ho, hd⟩ => by
    have nch : c ∉ ch := fun z => (hch c z).2.2.1 x c e rfl
    by_cases hc : c ∈ X.fs
    · obtain ⟨sl, q⟩ := slot c o (I.cne x c e) hc nch ho (I.freeC x c e)
      exact ⟨_, q, hd⟩
    · exact ⟨o, keep c o (I.cne x c e) hc nch ho (I.freeC x c e), hd⟩
  refine ⟨I.ok, I.os, hg, ⟨fun b o e n hb hx => ?_, fun b o e n hb hx => ?_, fun b o e n hx => ?_, fun b o e hx => ?_, fun b xs e => tups b xs (I.base.tups b xs e), fun b o xs e => frzs b o xs (I.base.frzs b o xs e), fun b ps e => ?_⟩, ?_, fun x c e => ?_, ?_, fun x c e => ?_, fun p hp => ?_, hok, I.len⟩
  · exact keep b o (neL b o e) hb (neC b o e hx) (I.base.keep b o e n hb hx) (I.base.free b o e n hx)
  · obtain ⟨sl, e1⟩ := I.base.slot b o e n hb hx
    obtain ⟨sl', e2⟩ := slot b _ (neL b o e) hb (neC b o e hx) e1 (I.base.free b o e n hx)
    exact ⟨sl', e2⟩
  · obtain ⟨o', e1⟩ := I.base.there b o e hx
    exact free b o' (neC b o e hx) e1 (I.base.free b o e n hx)
  · obtain ⟨o', e1⟩ := I.base.there b o e hx
    exact there b o' (neC b o e hx) e1
  · obtain ⟨m1, e1⟩ := I.base.tbls b ps e
    obtain ⟨m2, e2⟩ := tbls b _ e1
    exact ⟨m1 ++ m2, by rw [e2, Array.append_assoc]⟩
  · obtain ⟨m, hn, hl⟩ := I.loc
    refine ⟨m, ns m hn, fun i x v e1 e2 e3 => ?_⟩
    obtain ⟨u, r, l⟩ := hl i x v e1 e2 e3
    refine ⟨u, r, ?_⟩
    rcases l with l | ⟨k, c, e, z⟩
    · exact .inl l
    · exact .inr ⟨k, c, e, cellK x c e _ z⟩
  · obtain ⟨v, z⟩ := I.cell x c e
    exact ⟨v, cellK x c e v z⟩
  · obtain ⟨m, ⟨o, _, _, ho, _⟩, _⟩ := I.loc
    exact free _ o (fun z => (hch _ z).2.1 rfl) ho I.free
  · obtain ⟨v, o, ho, hd⟩ := I.cell x c e
    exact free c o (fun z => (hch c z).2.2.1 x c e rfl) ho (I.freeC x c e)
  · obtain ⟨e, n, ne, nf, d⟩ := I.pin p hp
    have nch : p.1 ∉ ch := fun z => (hch p.1 z).2.2.2 p hp rfl
    exact ⟨keep p.1 p.2 ne nf nch e n, free p.1 p.2 nch e n, ne, nf, d⟩
/-- .. where the frame's own object is kept too -/
theorem Inv.un {t' : Nat} (I : Inv X pins σ H s) (u : Un X.fs [] H H' s.heap h') (hok : HOk X.prog X.w H' h') : Inv X pins σ H' { s with heap := h', toks := t' } := by
  obtain ⟨m, ⟨o, es, ep, ho, r⟩, _⟩ := id I.loc
  obtain ⟨sl, hL⟩ := u.any ho I.free (by simp)
  exact I.step (g' := s.gens) (d' := s.drawn) (ch := []) (fun _ z => nomatch z) (fun b o _ hb _ e n => u.keep b o e n hb (by simp)) (fun b o _ hb _ e n => u.slot b o e n hb (by simp)) (fun b o _ e n => u.free b o e n (by simp)) (fun b o _ e => u.there b o e (by simp)) u.tups u.frzs u.tbls (fun m' hm => by
    obtain ⟨o', es', ep', ho', r'⟩ := hm
    rw [ho] at ho'; cases ho'
    exact ⟨_, es', ep', hL, r'⟩) hok I.bare
/-- behind a call (or a comprehension's block): the slots of this frame may have changed too, the records at ch may have turned -/
theorem Inv.call {g' : Array GenState} {t' : Nat} {d' : Drawn} {ch : List Addr} (I : Inv X pins σ H s) (u : Un (frs X.stack) ch H H' s.heap h') (hok : HOk X.prog X.w H' h') (hg : AllBare g')
    (hch : ∀ b ∈ ch, (b ∈ X.ex ∨ X.s₀.heap.objs.size ≤ b) ∧ b ≠ X.env.locals ∧ (∀ x c, X.env.cells.lookup x = some c → c ≠ b) ∧ ∀ p ∈ X.pn ++ pins, p.1 ≠ b) :
    Inv X pins σ H' { s with heap := h', gens := g', drawn := d', toks := t' } := by
  obtain ⟨m, ⟨o, es, ep, ho, r⟩, _⟩ := id I.loc
  obtain ⟨sl, hL⟩ := u.any ho I.free fun z => (hch _ z).2.1 rfl
  exact I.step (ch := ch) hch (fun b o hL hb hc e n => u.keep b o e n (fun z => (List.mem_cons.mp (I.stkSub b z)).elim hL hb) hc) (fun b o _ _ hc e n => u.any e n hc) (fun b o hc e n => u.free b o e n hc) (fun b o hc e => u.there b o e hc) u.tups u.frzs u.tbls (fun m' hm => by
    obtain ⟨o', es', ep', ho', r'⟩ := hm
    rw [ho] at ho'; cases ho'
    exact ⟨_, es', ep', hL, r'⟩) hok hg
/-- an untracked record of ours (an iterator) has turned -/
theorem Inv.turned {t' : Nat} {it : Addr} (I : Inv X pins σ H s) (k : ∀ b o, b ≠ it → s.heap.get? b = some o → h'.get? b = some o) (hn : H it = none) (hL : it ≠ X.env.locals)
    (h1 : it ∈ X.ex ∨ X.s₀.heap.objs.size ≤ it) (h2 : ∀ x c, X.env.cells.lookup x = some c → c ≠ it) (h3 : ∀ p ∈ X.pn ++ pins, p.1 ≠ it) : Inv X pins σ H { s with heap := h', toks := t' } := by
  have nit : ∀ b u, H b = some u → b ≠ it := fun b u e z => by rw [z, hn] at e; cases e
  refine I.step (g' := s.gens) (d' := s.drawn) (ch := [it]) (fun b hb => ?_) (fun b o _ _ hc e _ => k b o (fun z => hc (by simp [z])) e) (fun b o _ _ hc e _ => ⟨o.slots, k b o (fun z => hc (by simp [z])) e⟩) (fun _ _ _ _ n => n)
    (fun b o hc e => ⟨o, k b o (fun z => hc (by simp [z])) e⟩) (fun _ _ e => e) (fun _ _ _ e => e) (fun b ps e => ⟨#[], by rw [e]; simp⟩) (fun m hm => ?_) (fun b u e => ?_) I.bare
  · have e : b = it := by simpa using hb
    subst e
    exact ⟨h1, hL, h2, h3⟩
  · obtain ⟨o, es, ep, ho, r⟩ := hm
    exact ⟨o, es, ep, k _ o (Ne.symm hL) ho, r⟩
  · refine (I.hok b u e).stay (fun c v hc q => k c v ?_ q) (fun _ q => q) fun _ _ q => q
    rcases hc with z | z
    · rw [z]; exact nit b u e
    · exact nit c _ z
theorem Inv.tok (I : Inv X pins σ H s) (t : Nat) : Inv X pins σ H { s with toks := t } := I.un (h' := s.heap) (t' := t) Un.refl I.hok
/-- all objects kept -/
theorem Inv.kept {t' : Nat} (I : Inv X pins σ H s) (k : ∀ b u, s.heap.get? b = some u → h'.get? b = some u) : Inv X pins σ H { s with heap := h', toks := t' } := I.un (Un.kept k) (I.hok.kept k)
/-- a new object laid and tracked -/
theorem Inv.laid {a : Addr} {o : HO} {t' : Nat} (I : Inv X pins σ H s) (k : ∀ b u, s.heap.get? b = some u → h'.get? b = some u) (hp : s.heap.objs.size ≤ a) (new : ObjOk X.prog X.w (upd H a o) h' a o) :
    Inv X pins σ (upd H a o) { s with heap := h', toks := t' } := I.un (Un.laid k hp (I.hok.fresh hp)) (I.hok.laid k hp new)
/-- an object written -/
theorem Inv.write {x e : Addr} {o : HO} {t' : Nat} (I : Inv X pins σ H s) (mu : Mut (H x)) (he : e = x ∨ H e = some (.own x)) (k : ∀ b u, b ≠ e → s.heap.get? b = some u → h'.get? b = some u) (heo : ∃ u, h'.get? e = some u)
    (new : ObjOk X.prog X.w (upd H x o) h' x o) : Inv X pins σ (upd H x o) { s with heap := h', toks := t' } := I.un (Un.write mu he k heo) (I.hok.write mu he k heo new)
/-- forgetting slots, pins -/
theorem Inv.weak {σ' : List (Option V)} (I : Inv X pins σ H s) (hl : σ'.length = σ.length) (w : ∀ (i : Nat) v, σ'[i]? = some (some v) → σ[i]? = some (some v)) : Inv X pins σ' H s :=
  ⟨I.ok, I.os, I.bare, I.base, let ⟨m, hn, hl'⟩ := I.loc; ⟨m, hn, fun i x v e1 e2 e3 => hl' i x v e1 (w i v e2) e3⟩, I.cell, I.free, I.freeC, I.pin, I.hok, hl.trans I.len⟩
theorem Inv.pins_of {pins' : List (Addr × Obj)} (I : Inv X pins σ H s) (h : ∀ p ∈ pins', s.heap.get? p.1 = some p.2 ∧ H p.1 = none ∧ p.1 ≠ X.env.locals ∧ p.1 ∉ X.fs ∧ ∀ v, p.2.data ≠ .cell v) : Inv X pins' σ H s :=
  ⟨I.ok, I.os, I.bare, I.base, I.loc, I.cell, I.free, I.freeC, fun p hp => (List.mem_append.mp hp).elim (fun z => I.pin p (List.mem_append_left _ z)) (h p), I.hok, I.len⟩

theorem nodup_ix {N : List Str} (hN : N.Nodup) {i j : Nat} {x : Str} (a : N[i]? = some x) (b : N[j]? = some x) : i = j := by
  obtain ⟨h1, e1⟩ := List.getElem?_eq_some_iff.mp a
  obtain ⟨h2, e2⟩ := List.getElem?_eq_some_iff.mp b
  exact (List.getElem_inj hN).mp (e1.trans e2.symm)

/-- a name is stored; what changed -/
theorem store_ok2 {M : Model} {A : Around} {E : Value → Shared → Prop} {i : Nat} {x : Str} {v : V} {u : Value} {Q : Unit → Shared → Prop} (I : Inv X pins σ H s) (hN : X.N.Nodup) (hi : X.N[i]? = some x) (hx : Loc X.env.scope x) (r : RelV v u)
    (h : ∀ s', Inv X pins (σ.set i (some v)) H s' → (∃ a, Heap.SameBut a s.heap s'.heap ∧ (a = X.env.locals ∨ X.env.cells.lookup x = some a)) → Q () s') (hf : X.fn x = true ∨ X.env.scope.names.lookup x = some .local := by first | exact .inl rfl | exact .inr rfl | assumption) : wpAny M A (storeName X.env x u) Q E s := by
  obtain ⟨m, hn, hl⟩ := id I.loc
  have hcls : (X.env.scope.kind == .class || (X.env.scope.kind == .module && X.env.locals != X.env.globals)) = false := by rw [I.ok.kind]; rfl
  have hiσ : i < σ.length := by rw [I.len]; exact (List.getElem?_eq_some_iff.mp hi).1
  have cne := I.cne
  have tracked : ∀ {a : Addr} {h' : Heap}, (∃ o, s.heap.get? a = some o ∧ H a = none) → Heap.SameBut a s.heap h' → HOk X.prog X.w H h' := fun {a h'} ha hs b ob e => by
    obtain ⟨_, _, hfree⟩ := ha
    refine (I.hok b ob e).stay (fun c w' hc q => (hs.2 c ?_).trans q) (fun _ q => q) fun _ _ q => q
    rintro rfl
    rcases hc with rfl | hc
    · rw [hfree] at e; cases e
    · rw [hfree] at hc; cases hc
  rcases hx with hk | hk
  · refine wpAny_storeName_local hk hn (fun h' hn' hs => ?_) hcls
    obtain ⟨oL, _, _, hoL, _⟩ := id hn
    refine h _ ⟨I.ok, I.os, I.bare, ⟨fun b o e n hb hx => ?_, fun b o e n hb hx => ?_, I.base.free, fun b o e hx => ?_, I.base.tups, I.base.frzs, I.base.tbls⟩, ⟨_, hn', fun j y v' e1 e2 e3 => ?_⟩, fun y c e => ?_, I.free, I.freeC, fun p hp => ?_, tracked ⟨oL, hoL, I.free⟩ hs, by simpa using I.len⟩ ⟨_, hs, .inl rfl⟩
    · exact (hs.2 b (Nat.ne_of_lt (Nat.lt_of_lt_of_le (Heap.lt_size e) I.ok.above))).trans (I.base.keep b o e n hb hx)
    · obtain ⟨sl, e1⟩ := I.base.slot b o e n hb hx
      exact ⟨sl, (hs.2 b (Nat.ne_of_lt (Nat.lt_of_lt_of_le (Heap.lt_size e) I.ok.above))).trans e1⟩
    · obtain ⟨o', e1⟩ := I.base.there b o e hx
      exact ⟨o', (hs.2 b (Nat.ne_of_lt (Nat.lt_of_lt_of_le (Heap.lt_size e) I.ok.above))).trans e1⟩
    · by_cases hj : j = i
      · subst hj
        rw [hi] at e1; cases e1
        rw [List.getElem?_set_self hiσ] at e2
        cases e2
        exact ⟨u, r, .inl ⟨hk, by simp⟩⟩
      · rw [List.getElem?_set_ne (Ne.symm hj)] at e2
        obtain ⟨u', r', q⟩ := hl j y v' e1 e2 e3
        refine ⟨u', r', ?_⟩
        rcases q with ⟨k, e⟩ | ⟨k, c, e, z⟩
        · refine .inl ⟨k, ?_⟩
          have : y ≠ x := fun e => hj (nodup_ix hN e1 (e ▸ hi))
          simp [this, e]
        · exact .inr ⟨k, c, e, z.sameBut hs (cne y c e)⟩
    · obtain ⟨w', z⟩ := I.cell y c e
      exact ⟨w', z.sameBut hs (cne y c e)⟩
    · obtain ⟨e, n, ne, nf, d⟩ := I.pin p hp
      exact ⟨(hs.2 p.1 ne).trans e, n, ne, nf, d⟩
  · have hfn : X.fn x = true := by
      rcases hf with z | z
      · exact z
      · rw [z] at hk; cases hk
    obtain ⟨c, hc⟩ := I.ok.has x (.inl hk)
    obtain ⟨w', z⟩ := I.cell x c hc
    refine wpAny_storeName_cell I.ok.kind hk hc z (fun h' hc' hs => ?_)
    obtain ⟨oc, hoc, hocd⟩ := id z
    refine h { s with heap := h' } ⟨I.ok, I.os, I.bare, ⟨fun b o e n hb hx => ?_, fun b o e n hb hx => ?_, I.base.free, fun b o e hx => ?_, I.base.tups, I.base.frzs, I.base.tbls⟩, ⟨m, hn.sameBut hs (Ne.symm (cne x c hc)), fun j y v' e1 e2 e3 => ?_⟩, fun y c' e => ?_, I.free, I.freeC, fun p hp => ?_, tracked ⟨oc, hoc, I.freeC x c hc⟩ hs, by simpa using I.len⟩ ⟨c, hs, .inr hc⟩
    · exact (hs.2 b (Nat.ne_of_lt (Nat.lt_of_lt_of_le (Heap.lt_size e) (I.ok.cab x c hfn hc)))).trans (I.base.keep b o e n hb hx)
    · obtain ⟨sl, e1⟩ := I.base.slot b o e n hb hx
      exact ⟨sl, (hs.2 b (Nat.ne_of_lt (Nat.lt_of_lt_of_le (Heap.lt_size e) (I.ok.cab x c hfn hc)))).trans e1⟩
    · obtain ⟨o', e1⟩ := I.base.there b o e hx
      exact ⟨o', (hs.2 b (Nat.ne_of_lt (Nat.lt_of_lt_of_le (Heap.lt_size e) (I.ok.cab x c hfn hc)))).trans e1⟩
    · by_cases hj : j = i
      · subst hj
        rw [hi] at e1; cases e1
        rw [List.getElem?_set_self hiσ] at e2
        cases e2
        exact ⟨u, r, .inr ⟨.inl hk, c, hc, hc'⟩⟩
      · rw [List.getElem?_set_ne (Ne.symm hj)] at e2
        obtain ⟨u', r', q⟩ := hl j y v' e1 e2 e3
        refine ⟨u', r', ?_⟩
        rcases q with q | ⟨k, c', e, z'⟩
        · exact .inl q
        · refine .inr ⟨k, c', e, z'.sameBut hs ?_⟩
          rintro rfl
          exact hj (nodup_ix hN e1 (I.ok.inj _ _ _ e hc ▸ hi))
    · by_cases hcc : c' = c
      · subst hcc; exact ⟨_, hc'⟩
      · obtain ⟨w2, z2⟩ := I.cell y c' e
        exact ⟨w2, z2.sameBut hs hcc⟩
    · obtain ⟨e, n, ne, nf, d⟩ := I.pin p hp
      refine ⟨(hs.2 p.1 ?_).trans e, n, ne, nf, d⟩
      intro q
      rw [q, hoc] at e
      have q' : oc = p.2 := Option.some.inj e
      exact d w' (by rw [← q']; exact hocd)
theorem store_ok {M : Model} {A : Around} {E : Value → Shared → Prop} {i : Nat} {x : Str} {v : V} {u : Value} {Q : Unit → Shared → Prop} (I : Inv X pins σ H s) (hN : X.N.Nodup) (hi : X.N[i]? = some x) (hx : Loc X.env.scope x) (r : RelV v u)
    (h : ∀ s', Inv X pins (σ.set i (some v)) H s' → Q () s') (hf : X.fn x = true ∨ X.env.scope.names.lookup x = some .local := by first | exact .inl rfl | exact .inr rfl | assumption) : wpAny M A (storeName X.env x u) Q E s :=
  store_ok2 I hN hi hx r (fun s' I' _ => h s' I') hf
/-- behind a call or a block, the state as it is -/
theorem Inv.call' {s' : Shared} {ch : List Addr} (I : Inv X pins σ H s) (ho : s'.os = s.os) (u : Un (frs X.stack) ch H H' s.heap s'.heap) (hok : HOk X.prog X.w H' s'.heap) (hg : AllBare s'.gens)
    (hch : ∀ b ∈ ch, (b ∈ X.ex ∨ X.s₀.heap.objs.size ≤ b) ∧ b ≠ X.env.locals ∧ (∀ x c, X.env.cells.lookup x = some c → c ≠ b) ∧ ∀ p ∈ X.pn ++ pins, p.1 ≠ b) : Inv X pins σ H' s' := by
  obtain ⟨h', g', d', t', o'⟩ := s'
  have e : o' = s.os := ho
  subst e
  exact I.call (g' := g') (t' := t') (d' := d') u hok hg hch
end

/-! ### the judgements -/
/-- an exception: its class, its own dict's address (where it has one), the abstract heap behind it -/
abbrev XK := Value → Option Addr → Hp → Prop
abbrev St := List (Option V)
abbrev VK := V → Hp → Prop
/-- an expression's reading; a test's; an argument list's -/
abbrev TE := St → Hp → VK → Prop
abbrev TT := St → Hp → (Bool → Hp → Prop) → Prop
abbrev TA := St → Hp → (List V → Hp → Prop) → Prop
/-- what is wanted behind a statement -/
structure Ends where
  nx : St → Hp → Prop
  rt : VK
  bk : St → Hp → Prop := fun _ _ => False
  ct : St → Hp → Prop := fun _ _ => False
abbrev TS := Ends → St → Hp → Prop

def EP (X : Cx) (pins : List (Addr × Obj)) (σ : St) (Q : VK) (u : Value) (s' : Shared) : Prop := ∃ v H', Inv X pins σ H' s' ∧ RelV v u ∧ Q v H'
def TP (X : Cx) (pins : List (Addr × Obj)) (σ : St) (Q : Bool → Hp → Prop) (b : Bool) (s' : Shared) : Prop := ∃ H', Inv X pins σ H' s' ∧ Q b H'
def AP (X : Cx) (pins : List (Addr × Obj)) (σ : St) (Q : List V → Hp → Prop) (us : List Value) (s' : Shared) : Prop := ∃ vs H', Inv X pins σ H' s' ∧ Vals vs us ∧ Q vs H'
def SP (X : Cx) (pins : List (Addr × Obj)) (D : Ends) (f : Flow) (s' : Shared) : Prop :=
  match f with
  | .next => ∃ σ' H', Inv X pins σ' H' s' ∧ D.nx σ' H'
  | .brk => ∃ σ' H', Inv X pins σ' H' s' ∧ D.bk σ' H'
  | .cont => ∃ σ' H', Inv X pins σ' H' s' ∧ D.ct σ' H'
  | .ret u => ∃ v σ' H', Inv X pins σ' H' s' ∧ RelV v u ∧ D.rt v H'

def PE (X : Cx) (e : Expr) (t : TE) : Prop :=
  ∀ (pins : List (Addr × Obj)) (s : Shared) (σ : St) (H : Hp) (Q : VK), Inv X pins σ H s → t σ H Q → wpAny (model X.prog X.w) X.A (eval e X.env) (EP X pins σ Q) X.xe s
def PT (X : Cx) (e : Expr) (t : TT) : Prop :=
  ∀ (pins : List (Addr × Obj)) (s : Shared) (σ : St) (H : Hp) (Q : Bool → Hp → Prop), Inv X pins σ H s → t σ H Q → wpAny (model X.prog X.w) X.A (isTrue e X.env (eval e X.env)) (TP X pins σ Q) X.xe s
/-- a test whatever its 'whole' is (and, or) -/
def PW (X : Cx) (e : Expr) (t : TT) : Prop :=
  ∀ (whole : Sem Value) (pins : List (Addr × Obj)) (s : Shared) (σ : St) (H : Hp) (Q : Bool → Hp → Prop), Inv X pins σ H s → t σ H Q → wpAny (model X.prog X.w) X.A (isTrue e X.env whole) (TP X pins σ Q) X.xe s
theorem PW.pt {X : Cx} {e : Expr} {t : TT} (h : PW X e t) : PT X e t := h _
/-- an argument list (no star), from the left -/
def PA (X : Cx) (es : List Expr) (t : TA) : Prop :=
  ∀ (pos : Pos) (pins : List (Addr × Obj)) (s : Shared) (σ : St) (H : Hp) (Q : List V → Hp → Prop), Inv X pins σ H s → t σ H Q → wpAny (model X.prog X.w) X.A (spliced (backTo pos (starEach es X.env))) (AP X pins σ Q) X.xe s
def PS (X : Cx) (st : Stmt) (t : TS) : Prop :=
  ∀ (pins : List (Addr × Obj)) (s : Shared) (σ : St) (H : Hp) (D : Ends), Inv X pins σ H s → t D σ H → wpAny (model X.prog X.w) X.A (exec st X.env) (SP X pins D) X.xe s
def PSs (X : Cx) (st : List Stmt) (t : TS) : Prop :=
  ∀ (pins : List (Addr × Obj)) (s : Shared) (σ : St) (H : Hp) (D : Ends), Inv X pins σ H s → t D σ H → wpAny (model X.prog X.w) X.A (execs st X.env) (SP X pins D) X.xe s
/-- weaken the end -/
theorem thn {α : Type} {t : Sem α} {Q Q' : α → Shared → Prop} {M : Model} {A : Around} {E : Value → Shared → Prop} {s : Shared} (h : wpAny M A t Q E s) (hQ : ∀ a s, Q a s → Q' a s) : wpAny M A t Q' E s := wpAny_mono h hQ fun _ _ x => x
end L2

namespace L2
open PySem PySem.Spec PyProof.Rows
section
variable {X : Cx}

/-! ### names and constants -/
def tVar (i : Nat) : TE := fun σ H Q => ∃ v, σ[i]? = some (some v) ∧ Q v H
def tC (v : V) : TE := fun _ H Q => Q v H
theorem pe_var {i : Nat} {x : Str} {pos : Pos} (hN : X.N[i]? = some x) (hv : Vis X.env.scope x) (hd : (x == ("__debug__" : Str)) = false := by decide) (hcd : (x == ("__classdict__" : Str)) = false := by decide) : PE X (.Name x pos) (tVar i) := by
  intro pins s σ H Q I h
  obtain ⟨v, e, h⟩ := h
  obtain ⟨m, hn, hl⟩ := I.loc
  obtain ⟨u, r, l⟩ := hl i x v hN e hv
  have fin : EP X pins σ Q u s := ⟨v, H, I, r, h⟩
  rcases l with ⟨hk, hm⟩ | ⟨hk, c, hc, hcell⟩
  · exact wpAny_Name (wpAny_loadName_local I.ok.kind hk hn hm fin) hd
  · rcases hk with hk | hk
    · exact wpAny_Name (wpAny_loadName_cell I.ok.kind hk hc hcell fin) hd
    · exact wpAny_Name (wpAny_loadName_free I.ok.kind hk hc hcell fin hcd) hd
theorem pe_int {i j pos} : PE X (.Constant (.int i) j pos) (tC (.int i)) := fun _ _ _ H _ I h => wpAny_Constant_int ⟨.int i, H, I.tok _, ⟨_, rfl⟩, h⟩
theorem pe_bl {b j pos} : PE X (.Constant (.bool b) j pos) (tC (.bl b)) := fun _ _ _ H _ I h => Constant_bool ⟨.bl b, H, I, rfl, h⟩
theorem pe_non {j pos} : PE X (.Constant .none j pos) (tC .non) := fun _ _ _ H _ I h => Constant_none ⟨.non, H, I, rfl, h⟩
theorem pe_str {x j pos} : PE X (.Constant (.str x) j pos) (tC (.str x)) := fun _ _ _ H _ I h => Calls.Constant_str ⟨.str x, H, I.tok _, ⟨_, rfl⟩, h⟩

/-- a global name of the def -/
def Gl (X : Cx) (x : Str) : Prop := X.env.kindOf x = some .globalImplicit
theorem ld_glob {E : Value → Shared → Prop} {pins : List (Addr × Obj)} {s : Shared} {σ : St} {H : Hp} {x : Str} {u : Value} {pos : Pos} {Q : Value → Shared → Prop} (I : Inv X pins σ H s) (hg : Gl X x) (hm : X.mg x = some u) (h : Q u s)
    (hd : (x == ("__debug__" : Str)) = false := by decide) : wpAny (model X.prog X.w) X.A (eval (.Name x pos) X.env) Q E s :=
  Calls.Name_function_global I.ok.kind hg (Calls.loadGlobal_global (by rw [I.ok.glob]; exact I.mod.glob.keeps I.bk) hm h) hd
theorem ld_blt {E : Value → Shared → Prop} {pins : List (Addr × Obj)} {s : Shared} {σ : St} {H : Hp} {x : Str} {u : Value} {pos : Pos} {Q : Value → Shared → Prop} (I : Inv X pins σ H s) (hg : Gl X x) (hm : X.mg x = none) (hv : bootBuiltins x = some u) (h : Q u s)
    (hn : x ≠ "__name__" := by decide) (hd : (x == ("__debug__" : Str)) = false := by decide) : wpAny (model X.prog X.w) X.A (eval (.Name x pos) X.env) Q E s := by
  obtain ⟨mb, h1, h2⟩ := I.mod.blt
  exact Calls.Name_function_global I.ok.kind hg (Calls.loadGlobal_builtin (by rw [I.ok.glob]; exact I.mod.glob.keeps I.bk) hm (by rw [I.ok.blt]; exact h1.keeps I.bk) ((h2 x hn).trans hv) h) hd
/-- a module's constant, a class, a function, as a value -/
theorem pe_glob {x : Str} {v : V} {u : Value} {pos : Pos} (hg : Gl X x) (hm : X.mg x = some u) (r : RelV v u) (hd : (x == ("__debug__" : Str)) = false := by decide) : PE X (.Name x pos) (tC v) :=
  fun _ _ _ H _ I h => ld_glob I hg hm ⟨v, H, I, r, h⟩ hd
theorem pe_bltn {x : Str} {v : V} {u : Value} {pos : Pos} (hg : Gl X x) (hm : X.mg x = none) (hv : bootBuiltins x = some u) (r : RelV v u) (hn : x ≠ "__name__" := by decide) (hd : (x == ("__debug__" : Str)) = false := by decide) : PE X (.Name x pos) (tC v) :=
  fun _ _ _ H _ I h => ld_blt I hg hm hv ⟨v, H, I, r, h⟩ hn hd

/-! ### arithmetic -/
/-- two ints -/
def t2I (ta tb : TE) (k : Int → Int → Hp → Prop) : St → Hp → Prop := fun σ H => ta σ H fun x H1 => tb σ H1 fun y H2 => ∃ i j, x = .int i ∧ y = .int j ∧ k i j H2
def tAdd (ta tb : TE) : TE := fun σ H Q => t2I ta tb (fun i j H2 => Q (.int (i + j)) H2) σ H
def tSub (ta tb : TE) : TE := fun σ H Q => t2I ta tb (fun i j H2 => Q (.int (i - j)) H2) σ H
/-- the left factor below 2^64 -/
def tMul (ta tb : TE) : TE := fun σ H Q => t2I ta tb (fun i j H2 => (-(2 ^ 64) < i ∧ i < 2 ^ 64) ∧ Q (.int (i * j)) H2) σ H
variable {a b : Expr} {ta tb : TE} {pos : Pos}
/-! ### comparisons -/
def PC (X : Cx) (op : CmpOp) (a b : Expr) (t : TE) : Prop :=
  ∀ (pins : List (Addr × Obj)) (s : Shared) (σ : St) (H : Hp) (Q : VK), Inv X pins σ H s → t σ H Q →
    wpAny (model X.prog X.w) X.A (eval a X.env) (fun v s₁ => wpAny (model X.prog X.w) X.A (eval b X.env) (fun u s₂ => wpAny (model X.prog X.w) X.A (compareOp op v u) (EP X pins σ Q) X.xe s₂) X.xe s₁) X.xe s
def tCmp (p : Int → Int → Bool) (ta tb : TE) : TE := fun σ H Q => t2I ta tb (fun i j H2 => Q (.bl (p i j)) H2) σ H
abbrev tLt : TE → TE → TE := tCmp fun i j => decide (i < j)
abbrev tLe : TE → TE → TE := tCmp fun i j => decide (i ≤ j)
abbrev tGt : TE → TE → TE := tCmp fun i j => decide (j < i)
abbrev tGe : TE → TE → TE := tCmp fun i j => decide (j ≤ i)
abbrev tEqI : TE → TE → TE := tCmp fun i j => decide (i = j)
abbrev tNeI : TE → TE → TE := tCmp fun i j => !decide (i = j)
/-- is None -/
def tIsN (ta : TE) : TE := fun σ H Q => ta σ H fun x H1 => Q (.bl (decide (x = .non))) H1
def tNotN (ta : TE) : TE := fun σ H Q => ta σ H fun x H1 => Q (.bl (!decide (x = .non))) H1
/-- a comparison as a value, as a test -/
def tB (t : TE) : TT := fun σ H Q => t σ H fun x H1 => ∃ c, x = .bl c ∧ Q c H1
/-! ### and, or, not -/
variable {tA tB' : TT} {rest : List Expr}
def tAnd (t u : TT) : TT := fun σ H Q => t σ H fun c H1 => if c = true then u σ H1 Q else Q false H1
def tOr (t u : TT) : TT := fun σ H Q => t σ H fun c H1 => if c = true then Q true H1 else u σ H1 Q
def tNot (t : TT) : TT := fun σ H Q => t σ H fun c H1 => Q (!c) H1
theorem pw_and1 (ha : PT X a tA) : PW X (.BoolOp .And [a] pos) tA := by
  intro wh pins s σ H Q I h
  refine isTrue_and (thn (ha pins s σ H Q I h) fun c s1 e => ?_)
  cases c with
  | true => exact isTrue_and_nil e
  | false => exact e
theorem pw_or1 (ha : PT X a tA) : PW X (.BoolOp .Or [a] pos) tA := by
  intro wh pins s σ H Q I h
  refine isTrue_or (thn (ha pins s σ H Q I h) fun c s1 e => ?_)
  cases c with
  | false => exact isTrue_or_nil e
  | true => exact e
theorem pw_and (ha : PT X a tA) (hb : PW X (.BoolOp .And (b :: rest) pos) tB') : PW X (.BoolOp .And (a :: b :: rest) pos) (tAnd tA tB') := by
  intro wh pins s σ H Q I h
  refine isTrue_and (thn (ha pins s σ H _ I h) fun c s1 ⟨H1, I1, q1⟩ => ?_)
  cases c with
  | true => exact hb wh pins s1 σ H1 Q I1 q1
  | false => exact ⟨H1, I1, q1⟩
theorem pw_or (ha : PT X a tA) (hb : PW X (.BoolOp .Or (b :: rest) pos) tB') : PW X (.BoolOp .Or (a :: b :: rest) pos) (tOr tA tB') := by
  intro wh pins s σ H Q I h
  refine isTrue_or (thn (ha pins s σ H _ I h) fun c s1 ⟨H1, I1, q1⟩ => ?_)
  cases c with
  | true => exact ⟨H1, I1, q1⟩
  | false => exact hb wh pins s1 σ H1 Q I1 q1
theorem pt_not (ha : PT X a tA) : PT X (.UnaryOp .Not a pos) (tNot tA) := by
  intro pins s σ H Q I h
  exact isTrue_not (ha pins s σ H (fun c H1 => Q (!c) H1) I h)
/-- .. as values (bools) -/
def tAndV (ta tb : TE) : TE := fun σ H Q => ta σ H fun x H1 => ∃ c, x = .bl c ∧ if c = true then tb σ H1 Q else Q (.bl false) H1
def tOrV (ta tb : TE) : TE := fun σ H Q => ta σ H fun x H1 => ∃ c, x = .bl c ∧ if c = true then Q (.bl true) H1 else tb σ H1 Q
def tNotV (ta : TE) : TE := fun σ H Q => ta σ H fun x H1 => ∃ c, x = .bl c ∧ Q (.bl (!c)) H1
theorem pe_one {op} {t : TE} (h : PE X a t) : PE X (.BoolOp op [a] pos) t := fun pins s σ H Q I hw => BoolOp_one (h pins s σ H Q I hw)
theorem pe_or (ha : PE X a ta) (hb : PE X (.BoolOp .Or (b :: rest) pos) tb) : PE X (.BoolOp .Or (a :: b :: rest) pos) (tOrV ta tb) := by
  intro pins s σ H Q I h
  refine BoolOp_or (thn (ha pins s σ H _ I h) fun v s1 ⟨x, H1, I1, r1, q1⟩ => ?_)
  obtain ⟨c, rfl, q1⟩ := q1
  cases r1
  refine wpAny_truthy_bool ?_
  cases c with
  | false => exact hb pins s1 σ H1 Q I1 q1
  | true => exact ⟨.bl true, H1, I1, rfl, q1⟩
/-- a if t else b -/
def tIf (t : TT) (ta tb : TE) : TE := fun σ H Q => t σ H fun c H1 => if c = true then ta σ H1 Q else tb σ H1 Q
end
end L2

namespace L2
open PySem PySem.Spec PyProof.Rows

/-! ### a list, a tuple that is read: tracked, frozen, or an object of the module -/
def SqL (K : PySem.W.Frag) (H : Hp) (a : Addr) (xs : List V) : Prop :=
  Rd H a (.lst xs) ∨
    ∃ (o : Obj) (its : Array Value) (n : Nat), K.lookup a = some o ∧ o.cls = .type "list" ∧ o.dict = none ∧ o.data = .seq its n ∧ its.size ≤ sizeLine ∧ Vals xs its.toList
def SqT (K : PySem.W.Frag) (H : Hp) (a : Addr) (xs : List V) : Prop :=
  Rd H a (.tup xs) ∨
    ∃ (o : Obj) (its : Array Value) (n : Nat), K.lookup a = some o ∧ o.cls = .type "tuple" ∧ o.data = .seq its n ∧ its.size ≤ sizeLine ∧ Vals xs its.toList
def absV : Value → Option V
  | .none => some .non
  | .bool b => some (.bl b)
  | .int i _ => some (.int i)
  | .str x _ => some (.str x)
  | .bytes b _ => some (.byt b)
  | .float b _ => some (.flt b)
  | .ref a => some (.ref a)
  | .type n => some (.ty n)
  | _ => none
theorem RelV.abs {x : V} {u : Value} (r : RelV x u) : absV u = some x := by
  cases x with
  | non => cases r; rfl
  | bl _ => cases r; rfl
  | int _ => obtain ⟨t, rfl⟩ := r; rfl
  | str _ => obtain ⟨t, rfl⟩ := r; rfl
  | byt _ => obtain ⟨t, rfl⟩ := r; rfl
  | flt _ => obtain ⟨t, rfl⟩ := r; rfl
  | ref _ => cases r; rfl
  | ty _ => cases r; rfl
theorem RelV.inj {x y : V} {u : Value} (r : RelV x u) (q : RelV y u) : x = y := Option.some.inj (r.abs.symm.trans q.abs)
theorem Vals.inj : ∀ {xs ys : List V} {us : List Value}, Vals xs us → Vals ys us → xs = ys
  | _, _, _, .nil, .nil => rfl
  | _, _, _, .cons r t, .cons r' t' => by rw [r.inj r', Vals.inj t t']
section
variable {X : Cx} {pins : List (Addr × Obj)} {σ : St} {H : Hp} {s : Shared} {a : Addr} {xs ys : List V}
theorem SqL.of {K : PySem.W.Frag} (h : H a = some (.lst xs)) : SqL K H a xs := .inl (.inl h)
theorem SqT.of {K : PySem.W.Frag} (h : H a = some (.tup xs)) : SqT K H a xs := .inl (.inl h)
theorem Inv.list (I : Inv X pins σ H s) (h : SqL X.K H a xs) : ∃ its : List Value, Vals xs its ∧ PlainL s.heap a its.toArray ∧ xs.length ≤ sizeLine := by
  rcases h with h | ⟨o, its, n, hk, hc, hd, hs, hz, r⟩
  · obtain ⟨z, its, n, r, e⟩ := h.ok I.hok
    exact ⟨its, r, ⟨_, n, e, rfl, rfl, rfl⟩, z⟩
  · refine ⟨its.toList, r, ⟨o, n, I.kIn a o hk, hc, hd, by simpa using hs⟩, ?_⟩
    have e := r.length
    simp only [Array.length_toList] at e
    omega
theorem Inv.tuple (I : Inv X pins σ H s) (h : SqT X.K H a xs) : ∃ its : List Value, Vals xs its ∧ IsTup s.heap a its.toArray ∧ xs.length ≤ sizeLine := by
  rcases h with h | ⟨o, its, n, hk, hc, hs, hz, r⟩
  · obtain ⟨z, its, r, p⟩ := h.ok I.hok
    exact ⟨its, r, p, z⟩
  · refine ⟨its.toList, r, ⟨o, I.kIn a o hk, hc, n, by simpa using hs⟩, ?_⟩
    have e := r.length
    simp only [Array.length_toList] at e
    omega
theorem Inv.list_inj (I : Inv X pins σ H s) (h : SqL X.K H a xs) (h' : SqL X.K H a ys) : xs = ys := by
  obtain ⟨its, r, ⟨o, n, e, _, _, d⟩, _⟩ := I.list h
  obtain ⟨its', r', ⟨o', n', e', _, _, d'⟩, _⟩ := I.list h'
  rw [e] at e'; cases e'
  rw [d] at d'
  injection d' with d1 _
  have : its = its' := by simpa using congrArg Array.toList d1
  subst this
  exact r.inj r'
end

/-! ### another wish about exceptions -/
abbrev Cx.wish (X : Cx) (E : Value → Shared → Prop) : Cx := { X with xe := E }
/-- no exception leaves -/
abbrev Cx.nox (X : Cx) : Cx := X.wish fun _ _ => False
theorem Cx.Ok.wish {X : Cx} (ok : X.Ok) (E : Value → Shared → Prop) : (X.wish E).Ok :=
  ⟨ok.mod, ok.kind, ok.glob, ok.blt, ok.above, ok.inj, ok.has, ok.cab, ok.hd, ok.frames, ok.stk, ok.exf, ok.bs, ok.bsz, ok.noex, ok.exfs, ok.funs, ok.frf⟩
theorem Cx.Ok.unwish {X : Cx} {E : Value → Shared → Prop} (ok : (X.wish E).Ok) : X.Ok :=
  ⟨ok.mod, ok.kind, ok.glob, ok.blt, ok.above, ok.inj, ok.has, ok.cab, ok.hd, ok.frames, ok.stk, ok.exf, ok.bs, ok.bsz, ok.noex, ok.exfs, ok.funs, ok.frf⟩
section
variable {X : Cx} {pins : List (Addr × Obj)} {σ : St} {H : Hp} {s : Shared} {E : Value → Shared → Prop}
theorem Inv.wish (I : Inv X pins σ H s) (E : Value → Shared → Prop) : Inv (X.wish E) pins σ H s := ⟨I.ok.wish E, I.os, I.bare, I.base, I.loc, I.cell, I.free, I.freeC, I.pin, I.hok, I.len⟩
theorem Inv.unwish (I : Inv (X.wish E) pins σ H s) : Inv X pins σ H s := ⟨I.ok.unwish, I.os, I.bare, I.base, I.loc, I.cell, I.free, I.freeC, I.pin, I.hok, I.len⟩
theorem SP.unwish {D : Ends} {f : Flow} {s' : Shared} (h : SP (X.wish E) pins D f s') : SP X pins D f s' := by
  cases f with
  | next => obtain ⟨σ', H', I, q⟩ := h; exact ⟨σ', H', I.unwish, q⟩
  | brk => obtain ⟨σ', H', I, q⟩ := h; exact ⟨σ', H', I.unwish, q⟩
  | cont => obtain ⟨σ', H', I, q⟩ := h; exact ⟨σ', H', I.unwish, q⟩
  | ret u => obtain ⟨v, σ', H', I, r, q⟩ := h; exact ⟨v, σ', H', I.unwish, r, q⟩
theorem PSs.nox {st : List Stmt} {t : TS} (h : PSs X.nox st t) : PSs X st t := fun pins s σ H D I hw =>
  wpAny_mono (h pins s σ H D (I.wish _) hw) (fun _ _ q => q.unwish) fun _ _ z => False.elim z
end

/-! ### blocks and small statements -/
section
variable {X : Cx} {st : Stmt} {rest : List Stmt} {t u : TS} {e : Expr} {te : TE} {pos : Pos}
def tNext : TS := fun D σ H => D.nx σ H
def tSeq (t u : TS) : TS := fun D σ H => t { D with nx := u D } σ H
theorem pss_nil : PSs X [] tNext := fun _ _ σ H _ I h => wpAny_execs_nil ⟨σ, H, I, h⟩
theorem pss_cons (h1 : PS X st t) (h2 : PSs X rest u) : PSs X (st :: rest) (tSeq t u) := by
  intro pins s σ H D I h
  refine wpAny_execs_cons (thn (h1 pins s σ H { D with nx := u D } I h) fun f s1 q => ?_)
  cases f with
  | next =>
    obtain ⟨σ', H', I', q⟩ := q
    exact h2 pins s1 σ' H' D I' q
  | ret v => exact q
  | brk => exact q
  | cont => exact q
theorem pss_one (h1 : PS X st t) : PSs X [st] t := by
  intro pins s σ H D I h
  refine wpAny_execs_cons (thn (h1 pins s σ H D I h) fun f s1 q => ?_)
  cases f with
  | next => exact wpAny_execs_nil q
  | ret v => exact q
  | brk => exact q
  | cont => exact q
def tBreak : TS := fun D σ H => D.bk σ H
def tCont : TS := fun D σ H => D.ct σ H
/-- in a def's body nothing is shown -/
theorem Inv.quiet {pins : List (Addr × Obj)} {σ : St} {H : Hp} {s : Shared} (I : Inv X pins σ H s) : interactive X.env = false := by simp [interactive, I.ok.kind]
/-- an expression whose value is dropped -/
def tDrop (te : TE) : TS := fun D σ H => te σ H fun _ H1 => D.nx σ H1
theorem ps_expr (he : PE X e te) (hs : swapsWith e none pos.line X.env = pure false := by rfl) : PS X (.Expr e pos) (tDrop te) := by
  intro pins s σ H D I h
  exact wpAny_Expr_any (thn (he pins s σ H _ I h) fun v s1 ⟨x, H1, I1, r1, q1⟩ => ⟨σ, H1, I1, q1⟩) I.quiet hs
def tRet (te : TE) : TS := fun D σ H => te σ H D.rt
theorem ps_ret (he : PE X e te) : PS X (.Return (some e) pos) (tRet te) := by
  intro pins s σ H D I h
  exact wpAny_Return_some (thn (he pins s σ H _ I h) fun v s1 ⟨x, H1, I1, r1, q1⟩ => ⟨x, σ, H1, I1, r1, q1⟩)
def tRetN : TS := fun D _ H => D.rt .non H
def tIfS (c : TT) (t u : TS) : TS := fun D σ H => c σ H fun b H1 => if b = true then t D σ H1 else u D σ H1
theorem ps_if {c : Expr} {a b : List Stmt} {tc : TT} (hc : PT X c tc) (ha : PSs X a t) (hb : PSs X b u) : PS X (.If c a b pos) (tIfS tc t u) := by
  intro pins s σ H D I h
  refine wpAny_If (thn (hc pins s σ H _ I h) fun d s1 ⟨H1, I1, q1⟩ => ?_)
  cases d with
  | true => exact ha pins s1 σ H1 D I1 q1
  | false => exact hb pins s1 σ H1 D I1 q1
/-- code that the proof never comes to -/
def tNever : TS := fun _ _ _ => False
end

/-! ### targets -/
abbrev TG := V → St → Hp → (St → Hp → Prop) → Prop
abbrev TGs := List V → St → Hp → (St → Hp → Prop) → Prop
def PG (X : Cx) (target : Expr) (t : TG) : Prop :=
  ∀ (pins : List (Addr × Obj)) (s : Shared) (σ : St) (H : Hp) (v : V) (u : Value) (Q : St → Hp → Prop), Inv X pins σ H s → RelV v u → t v σ H Q →
    wpAny (model X.prog X.w) X.A (assign target X.env u) (fun _ s' => ∃ σ' H', Inv X pins σ' H' s' ∧ Q σ' H') X.xe s
/-- several targets, one after another -/
def PGs (X : Cx) (ts : List Expr) (t : TGs) : Prop :=
  ∀ (pins : List (Addr × Obj)) (s : Shared) (σ : St) (H : Hp) (vs : List V) (us : List Value) (Q : St → Hp → Prop), Inv X pins σ H s → Vals vs us → t vs σ H Q →
    wpAny (model X.prog X.w) X.A (assignInOrder ((assignEach ts X.env).map (·.2)) us) (fun _ s' => ∃ σ' H', Inv X pins σ' H' s' ∧ Q σ' H') X.xe s
/-- o[i] = v, by values -/
abbrev TSet := V → V → V → Hp → (Hp → Prop) → Prop
def PSet (X : Cx) (t : TSet) : Prop :=
  ∀ (pins : List (Addr × Obj)) (s : Shared) (σ : St) (H : Hp) (o i v : V) (ov iv u : Value) (Q : Hp → Prop), Inv X pins σ H s → RelV o ov → RelV i iv → RelV v u → t o i v H Q →
    wpAny (model X.prog X.w) X.A (setItem ov iv u) (fun _ s' => ∃ H', Inv X pins σ H' s' ∧ Q H') X.xe s
/-- a op= b, by values -/
abbrev TIp := V → V → Hp → VK → Prop
def PIp (X : Cx) (op : Operator) (t : TIp) : Prop :=
  ∀ (pins : List (Addr × Obj)) (s : Shared) (σ : St) (H : Hp) (x y : V) (v u : Value) (Q : VK), Inv X pins σ H s → RelV x v → RelV y u → t x y H Q →
    wpAny (model X.prog X.w) X.A (inplaceOp op v u) (EP X pins σ Q) X.xe s
section
variable {X : Cx} {pos : Pos}
def gName (i : Nat) : TG := fun v σ H Q => Q (σ.set i (some v)) H
theorem pg_name {i : Nat} {x : Str} (hN : X.N.Nodup) (hi : X.N[i]? = some x) (hx : Loc X.env.scope x) (hf : X.fn x = true ∨ X.env.scope.names.lookup x = some .local := by first | exact .inl rfl | exact .inr rfl | assumption) : PG X (.Name x pos) (gName i) := by
  intro pins s σ H v u Q I r h
  exact wpAny_assign_Name (store_ok I hN hi hx r (fun s' I' => ⟨_, H, I', h⟩) hf)
def gNil : TGs := fun vs σ H Q => vs = [] ∧ Q σ H
def gCons (t : TG) (u : TGs) : TGs := fun vs σ H Q => ∃ v r, vs = v :: r ∧ t v σ H fun σ' H' => u r σ' H' Q
theorem pgs_nil : PGs X [] gNil := by
  intro pins s σ H vs us Q I r h
  obtain ⟨e, h⟩ := h
  subst e
  cases r
  exact assignInOrder_nil ⟨σ, H, I, h⟩
theorem pgs_cons {e : Expr} {es : List Expr} {t : TG} {u : TGs} (h1 : PG X e t) (h2 : PGs X es u)
    (hs : (assignEach (e :: es) X.env).map (·.2) = assign e X.env :: (assignEach es X.env).map (·.2) := by rfl) : PGs X (e :: es) (gCons t u) := by
  intro pins s σ H vs us Q I r h
  obtain ⟨v, vr, e1, h⟩ := h
  subst e1
  cases r with
  | cons r rr =>
    rw [hs]
    refine assignInOrder_cons (thn (h1 pins s σ H _ _ _ I r h) fun _ s1 ⟨σ1, H1, I1, q1⟩ => ?_)
    exact h2 pins s1 σ1 H1 _ _ Q I1 rr q1
/-- (a, b, ..) = a tuple of that length -/
def gTup (K : PySem.W.Frag) (n : Nat) (t : TGs) : TG := fun v σ H Q => ∃ a xs, v = .ref a ∧ SqT K H a xs ∧ xs.length = n ∧ t xs σ H Q
theorem pg_tup {es : List Expr} {k : Nat} {t : TGs} {n : Nat} (hc : X.calm = true) (h : PGs X es t)
    (hn : (assignEach es X.env).length = n := by rfl) (hst : (assignEach es X.env).findIdx? (·.1) = none := by rfl) : PG X (.Tuple es k pos) (gTup X.K n t) := by
  intro pins s σ H v u Q I r hw
  obtain ⟨a, xs, e1, hq, hl, hw⟩ := hw
  subst e1
  cases r
  obtain ⟨its, rv, ht, hz⟩ := I.tuple hq
  refine assign_Tuple_tuple (I.ok.hd hc) ht (by simp [hn, ← hl, rv.length]) hst fun h' hx => ?_
  have I1 : Inv X pins σ H { s with heap := h' } := I.kept (t' := s.toks) fun b o e => hx b o (Nat.ne_of_lt (Heap.lt_size e)) e
  exact h pins _ σ H xs _ Q I1 (by simpa using rv) hw
/-- o[i] = .. -/
def gSub (to ti : TE) (t : TSet) : TG := fun v σ H Q => to σ H fun o H1 => ti σ H1 fun i H2 => t o i v H2 fun H3 => Q σ H3
theorem pg_sub {o i : Expr} {to ti : TE} {t : TSet} (ho : PE X o to) (hi : PE X i ti) (hs : PSet X t)
    (ha : ∀ v, assign (.Subscript o i pos) X.env v = (do
      let ov ← holding [v] (eval o X.env)
      let iv ← holding [v, ov] (eval i X.env)
      standAt pos
      holding [v, ov, iv] (setItem ov iv v)
      release [v, ov, iv] []) := by intro _; rfl) : PG X (.Subscript o i pos) (gSub to ti t) := by
  intro pins s σ H v u Q I r h
  rw [ha]
  refine wpAny_bind (wpAny_holding (thn (ho pins s σ H _ I h) fun ov s1 ⟨x, H1, I1, r1, q1⟩ => ?_))
  refine wpAny_bind (wpAny_holding (thn (hi pins s1 σ H1 _ I1 q1) fun iv s2 ⟨y, H2, I2, r2, q2⟩ => ?_))
  refine wpAny_bind (wpAny_standAt (wpAny_bind (wpAny_holding (thn (hs pins s2 σ H2 x y v ov iv u _ I2 r1 r2 r q2) fun _ s3 ⟨H3, I3, q3⟩ => ?_))))
  exact wpAny_release ⟨σ, H3, I3, q3⟩
/-- target = value -/
def tAsg (te : TE) (g : TG) : TS := fun D σ H => te σ H fun x H1 => g x σ H1 D.nx
theorem ps_asg {tg e : Expr} {te : TE} {g : TG} (he : PE X e te) (hg : PG X tg g) (hs : swapsWithSole [tg] e pos.line X.env = pure false := by rfl) (hw : swappedStores [tg] e X.env = pure none := by rfl)
    (h1 : (assignEach [tg] X.env).map (·.2) = [assign tg X.env] := by rfl) : PS X (.Assign [tg] e pos) (tAsg te g) := by
  intro pins s σ H D I h
  refine wpAny_Assign_stores (thn (he pins s σ H _ I h) fun v s1 ⟨x, H1, I1, r1, q1⟩ => ?_) hs hw
  rw [h1]
  exact thn (hg pins s1 σ H1 x v _ I1 r1 q1) fun _ s2 q => q
/-- name = value -/
theorem ps_set {i : Nat} {x : Str} {e : Expr} {te : TE} {pos' : Pos} (hN : X.N.Nodup) (hi : X.N[i]? = some x) (hx : Loc X.env.scope x) (he : PE X e te) (hs : swapsWith e (some (.Name x pos')) pos.line X.env = pure false := by rfl) (hf : X.fn x = true ∨ X.env.scope.names.lookup x = some .local := by first | exact .inl rfl | exact .inr rfl | assumption) :
    PS X (.Assign [.Name x pos'] e pos) (tAsg te (gName i)) := by
  intro pins s σ H D I h
  refine wpAny_Assign_Name (thn (he pins s σ H _ I h) fun v s1 ⟨y, H1, I1, r1, q1⟩ => ?_) hs
  exact store_ok I1 hN hi hx r1 (fun s2 I2 => ⟨_, H1, I2, q1⟩) hf
/-- a, b = x, y with plain local names: stored from the right; the pair itself is not tracked (the opening rows as in PyProof/Rows/TupAssign.lean:23) -/
def tPar (i j : Nat) (ta : TA) : TS := fun D σ H => ta σ H fun vs H1 => ∃ v w, vs = [v, w] ∧ D.nx ((σ.set i (some v)).set j (some w)) H1
/-- name op= e -/
def tAug (i : Nat) (te : TE) (ti : TIp) : TS := fun D σ H => ∃ x, σ[i]? = some (some x) ∧ te σ H fun y H1 => ti x y H1 fun z H2 => D.nx (σ.set i (some z)) H2
/-- o[i] op= e -/
def tAugS (to ti te : TE) (tget : V → V → Hp → VK → Prop) (tip : TIp) (tset : TSet) : TS := fun D σ H => to σ H fun o H1 => ti σ H1 fun i H2 => tget o i H2 fun x H3 => te σ H3 fun y H4 => tip x y H4 fun z H5 => tset o i z H5 fun H6 => D.nx σ H6
/-- o[i], by values -/
def PGet (X : Cx) (t : V → V → Hp → VK → Prop) : Prop :=
  ∀ (pins : List (Addr × Obj)) (s : Shared) (σ : St) (H : Hp) (o i : V) (ov iv : Value) (Q : VK), Inv X pins σ H s → RelV o ov → RelV i iv → t o i H Q →
    wpAny (model X.prog X.w) X.A (getItem ov iv) (EP X pins σ Q) X.xe s
/-- ints -/
def ipI (f : Int → Int → Int) : TIp := fun x y H Q => ∃ i j, x = .int i ∧ y = .int j ∧ Q (.int (f i j)) H
end

/-! ### while -/
section
variable {X : Cx} {pos : Pos}
/-- the invariant W with its measure -/
def tWhile (c : TT) (tb : TS) : TS := fun D σ H => ∃ W : Nat → St → Hp → Prop, (∃ m, W m σ H) ∧ ∀ m σ H, W m σ H →
  c σ H fun b H1 => if b = true then ∃ N : St → Hp → Prop, (∀ σ' H', N σ' H' → ∃ m', m' < m ∧ W m' σ' H') ∧ tb { D with nx := N, ct := N, bk := D.nx } σ H1 else D.nx σ H1
end

/-! ### what a loop or a comprehension walks -/
/-- at turn i: it yields x (the heap may grow), or it stops -/
structure It where
  go : Nat → Hp → Prop
  yld : Nat → Hp → V → Hp → Prop
  stop : Nat → Hp → Prop
/-- the iterator's own objects may turn: they are not the frame's, not pinned, younger than the entry (or a comprehension's own) -/
def FpOk (X : Cx) (pins : List (Addr × Obj)) (H : Hp) (b : Addr) : Prop :=
  H b = none ∧ b ≠ X.env.locals ∧ b ∉ X.fs ∧ (b ∈ X.ex ∨ X.s₀.heap.objs.size ≤ b) ∧ (∀ x c, X.env.cells.lookup x = some c → c ≠ b) ∧ ∀ p ∈ X.pn ++ pins, p.1 ≠ b
theorem Inv.fpOk {X : Cx} {pins : List (Addr × Obj)} {σ : St} {H H' : Hp} {s : Shared} {b : Addr} (I : Inv X pins σ H s) (hb : s.heap.objs.size ≤ b) (hn : H' b = none) : FpOk X pins H' b := by
  refine ⟨hn, Nat.ne_of_gt (Nat.lt_of_lt_of_le I.lt hb), I.nofs hb, .inr (Nat.le_trans I.sz hb), fun x c e z => ?_, fun p hp z => ?_⟩
  · obtain ⟨v, q⟩ := I.cell x c e
    exact absurd (Nat.lt_of_lt_of_le q.lt (by rw [z]; exact hb)) (Nat.lt_irrefl _)
  · exact absurd (Nat.lt_of_lt_of_le (Heap.lt_size (I.pin p hp).1) (by rw [z]; exact hb)) (Nat.lt_irrefl _)
structure Turn (P : Program) (w : World) (K : PySem.W.Frag) (tg : Expr) (J : It) (fp : List Addr) (it : Addr) (tn : Nat → Heap → Prop) : Prop where
  mem : it ∈ fp
  obj : ∀ i h, tn i h → ∀ b ∈ fp, ∃ o, h.get? b = some o ∧ ∀ v, o.data ≠ .cell v
  keep : ∀ i h h', tn i h → (∀ b ∈ fp, ∀ o, h.get? b = some o → h'.get? b = some o) → tn i h'
  item : ∀ (X : Cx), X.prog = P → X.w = w → X.K = K → X.calm = true → ∀ (i : Nat) (pins : List (Addr × Obj)) (s : Shared) (σ : St) (H : Hp) (E : Value → Shared → Prop), Inv X pins σ H s → (∀ b ∈ fp, FpOk X pins H b) → tn i s.heap → J.go i H →
    wpAny (model P w) X.A (pyNext (.ref it)) (fun r s1 => ∃ u, r = some u ∧
      wpAny (model P w) X.A (letOwnedTupleGo tg (.ref it) u) (fun _ s2 => ∃ x H', Inv X pins σ H' s2 ∧ RelV x u ∧ J.yld i H x H' ∧ tn (i + 1) s2.heap ∧ ∀ b ∈ fp, H' b = none) E s1) E s
  done : ∀ (X : Cx), X.prog = P → X.w = w → X.K = K → X.calm = true → ∀ (i : Nat) (pins : List (Addr × Obj)) (s : Shared) (σ : St) (H : Hp) (E : Value → Shared → Prop), Inv X pins σ H s → (∀ b ∈ fp, FpOk X pins H b) → tn i s.heap → J.stop i H →
    wpAny (model P w) X.A (pyNext (.ref it)) (fun r s1 => r = none ∧ Inv X pins σ H s1) E s
  self : ∀ (A : Around) (i : Nat) (s : Shared) (Q : Value → Shared → Prop) (E : Value → Shared → Prop), tn i s.heap → Q (.ref it) s → wpAny (model P w) A (pyIter (.ref it)) Q E s
abbrev TI := St → Hp → (It → Hp → Prop) → Prop
/-- an iterator has come -/
def PIE (X : Cx) (pins : List (Addr × Obj)) (σ : St) (tg : Expr) (R : It → Hp → Prop) (itv : Value) (s2 : Shared) : Prop :=
  ∃ (it : Addr) (fp : List Addr) (tn : Nat → Heap → Prop) (J : It) (H' : Hp), itv = .ref it ∧ Inv X pins σ H' s2 ∧ Turn X.prog X.w X.K tg J fp it tn ∧ tn 0 s2.heap ∧ (∀ b ∈ fp, FpOk X pins H' b) ∧ R J H'
def PI (X : Cx) (tg iter : Expr) (wi : TI) : Prop :=
  ∀ (pins : List (Addr × Obj)) (s : Shared) (σ : St) (H : Hp) (R : It → Hp → Prop), Inv X pins σ H s → wi σ H R →
    wpAny (model X.prog X.w) X.A (eval iter X.env) (fun v s1 => wpAny (model X.prog X.w) X.A (pyIter v) (PIE X pins σ tg R) X.xe s1) X.xe s

/-- the step ahead of the store is nothing for an iterator that keeps no tuple -/
theorem go_of {M : Model} {A : Around} {E : Value → Shared → Prop} {s : Shared} {tg : Expr} {it : Addr} {u : Value} {o : Obj} {n : String} {vs : Array Value} {Q : Unit → Shared → Prop} (ho : s.heap.get? it = some o) (hc : o.cls = .type n) (hd : o.data = .fields vs)
    (hn : ["enumerate", "zip", "dict_itemiterator", "dict_reverseitemiterator", "odict_iterator", "itertools.zip_longest", "itertools.pairwise"].contains n = false) (hQ : Q () s) : wpAny M A (letOwnedTupleGo tg (.ref it) u) Q E s := by
  unfold letOwnedTupleGo
  cases tg <;> first
    | exact wpAny_pure hQ
    | (cases u <;> first
        | exact wpAny_pure hQ
        | (refine wpAny_bind (wpAny_load ho ?_)
           rw [hc, hd]
           show wpAny M A (if (["enumerate", "zip", "dict_itemiterator", "dict_reverseitemiterator", "odict_iterator", "itertools.zip_longest", "itertools.pairwise"].contains n && vs[0]? == some (rawInt _)) = true then _ else _) Q E s
           rw [if_neg (by intro h; rw [hn, Bool.false_and] at h; cases h)]
           exact wpAny_pure hQ))

/-- the list at a, as it stands at each turn (a loop may append to it) -/
def Itl (K : PySem.W.Frag) (a : Addr) : It :=
  ⟨fun i H => ∃ xs x, SqL K H a xs ∧ xs[i]? = some x, fun i H x H' => H' = H ∧ ∀ xs, SqL K H a xs → xs[i]? = some x, fun i H => ∃ xs, SqL K H a xs ∧ xs.length ≤ i⟩
def Itt (K : PySem.W.Frag) (a : Addr) : It :=
  ⟨fun i H => ∃ xs x, SqT K H a xs ∧ xs[i]? = some x, fun i H x H' => H' = H ∧ ∀ xs, SqT K H a xs → xs[i]? = some x, fun i H => ∃ xs, SqT K H a xs ∧ xs.length ≤ i⟩
/-- lo, lo + 1, .. (n of them) -/
def Itr (lo : Int) (n : Nat) : It := ⟨fun i _ => i < n, fun i H x H' => H' = H ∧ x = .int (lo + i), fun i _ => n ≤ i⟩
theorem turn_list {P : Program} {w : World} {K : PySem.W.Frag} {tg : Expr} (a it : Addr) : Turn P w K tg (Itl K a) [it] it (fun i h => h.IsListIter it a i) where
  mem := by simp
  obj := fun i h st b hb => by
    have e : b = it := by simpa using hb
    subst e
    obtain ⟨o, e, c, d⟩ := st
    exact ⟨o, e, fun v z => by rw [d] at z; cases z⟩
  keep := fun i h h' st k => st.at fun o e => k it (by simp) o e
  item := by
    intro X hP hw hK hc i pins s σ H E I hf st hg
    subst hP hw hK
    obtain ⟨xs, x, hq, hx⟩ := hg
    obtain ⟨its, rv, p, hz⟩ := I.list hq
    obtain ⟨u, hu, ru⟩ := rv.get hx
    obtain ⟨f0, f1, f2, f3, f4, f5⟩ := hf it (by simp)
    refine wpAny_pyNext_list_item st p.isList (x := u) (by simpa using hu) fun h' st' sb => ?_
    have I1 : Inv X pins σ H { s with heap := h' } := I.turned (t' := s.toks) (fun b o hb e => (sb.2 b hb).trans e) f0 f1 f3 f4 f5
    obtain ⟨o, e, c, d⟩ := id st'
    exact ⟨u, rfl, go_of (s := { s with heap := h' }) e c d (by decide) ⟨x, H, I1, ru, ⟨rfl, fun ys hy => by rw [I.list_inj hy hq]; exact hx⟩, st', fun b hb => (hf b hb).1⟩⟩
  done := by
    intro X hP hw hK hc i pins s σ H E I hf st hg
    subst hP hw hK
    obtain ⟨xs, hq, hx⟩ := hg
    obtain ⟨its, rv, p, hz⟩ := I.list hq
    obtain ⟨f0, f1, f2, f3, f4, f5⟩ := hf it (by simp)
    have hl := rv.length
    exact wpAny_pyNext_list_end (I.ok.hd hc) st p.isList (by simp; omega) fun h' eb => ⟨rfl, I.turned (t' := s.toks) (fun b o hb e => eb b o hb e) f0 f1 f3 f4 f5⟩
  self := fun _ _ _ _ _ st h => wpAny_pyIter_listiter st h
theorem turn_range {P : Program} {w : World} {K : PySem.W.Frag} {tg : Expr} (it : Addr) (lo : Int) (n : Nat) : Turn P w K tg (Itr lo n) [it] it (fun i h => IsRangeIter h it (lo + (i : Nat) * 1) ((n : Int) - (i : Nat)) 1) where
  mem := by simp
  obj := fun i h st b hb => by
    have e : b = it := by simpa using hb
    subst e
    exact ⟨_, st, fun v z => by
      have z' : Data.fields _ = Data.cell v := z
      cases z'⟩
  keep := fun i h h' st k => k it (by simp) _ st
  item := by
    intro X hP hw hK hc i pins s σ H E I hf st hg
    subst hP hw hK
    obtain ⟨f0, f1, f2, f3, f4, f5⟩ := hf it (by simp)
    have W := Walks.range (prog := X.prog) (w := X.w) (I.ok.hd hc) it lo 1 n
    refine W.item i s _ _ hg st fun v h' tk hv st' kk => ?_
    obtain ⟨t, rfl⟩ := hv
    have I1 : Inv X pins σ H { s with heap := h', toks := tk } := I.turned (fun b o hb e => kk b o (by simpa using hb) e) f0 f1 f3 f4 f5
    refine ⟨_, rfl, go_of (s := { s with heap := h', toks := tk }) (n := "range_iterator") st' rfl rfl (by decide) ⟨.int (lo + i), H, I1, ⟨t, ?_⟩, ⟨rfl, rfl⟩, st', fun b hb => (hf b hb).1⟩⟩
    rw [Int.mul_one]
  done := by
    intro X hP hw hK hc i pins s σ H E I hf st hg
    subst hP hw hK
    obtain ⟨f0, f1, f2, f3, f4, f5⟩ := hf it (by simp)
    exact wpAny_pyNext_range_end (I.ok.hd hc) st (by have : n ≤ i := hg; omega) fun h' eb => ⟨rfl, I.turned (t' := s.toks) (fun b o hb e => eb b o hb e) f0 f1 f3 f4 f5⟩
  self := fun _ _ _ _ _ st h => wpAny_pyIter_rangeiter st h
end L2

namespace L2
open PySem PySem.Spec PyProof.Rows
section
variable {X : Cx} {tg : Expr}
def iList (K : PySem.W.Frag) (tl : TE) : TI := fun σ H R => tl σ H fun x H1 => ∃ a, x = .ref a ∧ (∃ xs, SqL K H1 a xs) ∧ R (Itl K a) H1
def iTup (K : PySem.W.Frag) (tl : TE) : TI := fun σ H R => tl σ H fun x H1 => ∃ a, x = .ref a ∧ (∃ xs, SqT K H1 a xs) ∧ R (Itt K a) H1
theorem pi_list {l : Expr} {tl : TE} (hl : PE X l tl) : PI X tg l (iList X.K tl) := by
  intro pins s σ H R I h
  refine thn (hl pins s σ H _ I h) fun v s1 ⟨x, H1, I1, r1, q1⟩ => ?_
  obtain ⟨a, e, ⟨xs, hq⟩, q⟩ := q1
  subst e
  cases r1
  obtain ⟨its, rv, p, hz⟩ := I1.list hq
  refine wpAny_pyIter_list p.isList ?_
  refine ⟨s1.heap.objs.size, [s1.heap.objs.size], _, _, H1, rfl, I1.kept (t' := s1.toks) fun b o e => Heap.get?_push_of_some _ e, turn_list a _, ⟨_, Heap.get?_push_size _ rfl, rfl, rfl⟩, fun b hb => ?_, q⟩
  have e : b = s1.heap.objs.size := by simpa using hb
  subst e
  exact I1.fpOk (Nat.le_refl _) (I1.hok.fresh (Nat.le_refl _))
/-- a range object just made, walked -/
theorem range_it {pins : List (Addr × Obj)} {σ : St} {H : Hp} {s : Shared} {R : It → Hp → Prop} {E : Value → Shared → Prop} {lo hi : Int} {t u v : Tok} {tk : Nat} (I : Inv X pins σ H s) (h1 : -(2 ^ 62) ≤ lo) (h2 : lo < 2 ^ 62) (h3 : -(2 ^ 62) ≤ hi) (h4 : hi < 2 ^ 62)
    (q : R (Itr lo (hi - lo).toNat) H) : wpAny (model X.prog X.w) X.A (pyIter (.ref s.heap.objs.size)) (PIE X pins σ tg R) E { s with heap := s.heap.push { cls := .type "range", data := .fields #[.int lo t, .int hi u, .int 1 v] }, toks := tk } := by
  refine wpAny_pyIter_range (IsRange.new ..) (small_one h1 h2 h3 h4) ?_
  have I1 : Inv X pins σ H { s with heap := s.heap.push { cls := .type "range", data := .fields #[.int lo t, .int hi u, .int 1 v] }, toks := tk } := I.kept fun b o e => Heap.get?_push_of_some _ e
  refine ⟨(s.heap.push { cls := .type "range", data := .fields #[.int lo t, .int hi u, .int 1 v] }).objs.size, [(s.heap.push { cls := .type "range", data := .fields #[.int lo t, .int hi u, .int 1 v] }).objs.size], _, _, H, rfl,
    I1.kept (t' := tk) fun b o e => Heap.get?_push_of_some _ e, turn_range _ lo (hi - lo).toNat, ?_, fun b hb => ?_, q⟩
  · have e1 : lo + ((0 : Nat) : Int) * 1 = lo := by simp
    have e2 : (((hi - lo).toNat : Nat) : Int) - ((0 : Nat) : Int) = Builtin.Range.rangeSize lo hi 1 := by rw [rangeSize_one]; split <;> omega
    show IsRangeIter _ _ (lo + ((0 : Nat) : Int) * 1) ((((hi - lo).toNat : Nat) : Int) - ((0 : Nat) : Int)) 1
    rw [e1, e2]
    exact Heap.get?_push_size _ rfl
  · have e : b = (s.heap.push { cls := .type "range", data := .fields #[.int lo t, .int hi u, .int 1 v] }).objs.size := by simpa using hb
    subst e
    exact I1.fpOk (Nat.le_refl _) (I1.hok.fresh (Nat.le_refl _))
def iRng1 (ta : TA) : TI := fun σ H R => ta σ H fun vs H1 => ∃ j : Int, vs = [.int j] ∧ -(2 ^ 62) ≤ j ∧ j < 2 ^ 62 ∧ R (Itr 0 j.toNat) H1
def iRng2 (ta : TA) : TI := fun σ H R => ta σ H fun vs H1 => ∃ i j : Int, vs = [.int i, .int j] ∧ (-(2 ^ 62) ≤ i ∧ i < 2 ^ 62 ∧ -(2 ^ 62) ≤ j ∧ j < 2 ^ 62) ∧ R (Itr i (j - i).toNat) H1
theorem pi_range1 {a : Expr} {ta : TA} {p pos : Pos} (hg : Gl X "range") (hm : X.mg "range" = none) (ha : PA X [a] ta) (hs : starEach [a] X.env = [(false, eval a X.env)] := by rfl) : PI X tg (.Call (.Name "range" p) [a] [] pos) (iRng1 ta) := by
  intro pins s σ H R I h
  refine Call_ (ld_blt I hg hm boot_range (PyProof.Rows.callWith_type1 (thn (ha pos pins s σ H _ I h) fun us s1 ⟨vs, H1, I1, r1, q1⟩ => ?_) hs rfl))
  obtain ⟨j, e, q1, q2, q⟩ := q1
  subst e
  cases r1 with
  | cons r rr =>
    cases rr
    obtain ⟨t, rfl⟩ := r
    exact call_range_1 (range_it I1 (by omega) (by omega) q1 q2 (by simpa using q))
/-! ### for -/
/-- W: the invariant by the turn and a measure; N: what the body is to reach -/
def tFor (wi : TI) (g : TG) (tb : TS) : TS := fun D σ H => wi σ H fun J H1 => ∃ W : Nat → Nat → St → Hp → Prop, (∃ m, W 0 m σ H1) ∧ ∀ i m σ H, W i m σ H →
  (J.stop i H ∧ D.nx σ H) ∨ (J.go i H ∧ ∃ N : St → Hp → Prop, (∀ σ' H', N σ' H' → ∃ m', m' < m ∧ W (i + 1) m' σ' H') ∧ ∀ x H', J.yld i H x H' → g x σ H' fun σ2 H2 => tb { D with nx := N, ct := N, bk := D.nx } σ2 H2)
/-- the records at fp as they stand -/
def pinsAt (fp : List Addr) (h : Heap) : List (Addr × Obj) := fp.filterMap fun b => (h.get? b).map fun o => (b, o)
theorem mem_pinsAt {fp : List Addr} {h : Heap} {b : Addr} {o : Obj} (hb : b ∈ fp) (e : h.get? b = some o) : (b, o) ∈ pinsAt fp h := List.mem_filterMap.mpr ⟨b, hb, by rw [e]; rfl⟩
theorem of_pinsAt {fp : List Addr} {h : Heap} {p : Addr × Obj} (hp : p ∈ pinsAt fp h) : p.1 ∈ fp ∧ h.get? p.1 = some p.2 := by
  obtain ⟨b, hb, e⟩ := List.mem_filterMap.mp hp
  cases q : h.get? b with
  | none => rw [q] at e; cases e
  | some o =>
    rw [q] at e
    have e' : (b, o) = p := Option.some.inj e
    subst e'
    exact ⟨hb, q⟩
theorem Inv.pinned {pins : List (Addr × Obj)} {σ : St} {H : Hp} {s : Shared} {fp : List Addr} (I : Inv X pins σ H s) (hf : ∀ b ∈ fp, FpOk X pins H b) (ho : ∀ b ∈ fp, ∃ o, s.heap.get? b = some o ∧ ∀ v, o.data ≠ .cell v) : Inv X (pins ++ pinsAt fp s.heap) σ H s :=
  I.pins_of fun p hp => (List.mem_append.mp hp).elim (fun z => I.pin p (List.mem_append_right _ z)) fun z => by
    obtain ⟨hb, e⟩ := of_pinsAt z
    obtain ⟨f0, f1, f2, _⟩ := hf p.1 hb
    obtain ⟨o, e', d⟩ := ho p.1 hb
    rw [e] at e'; cases e'
    exact ⟨e, f0, f1, f2, d⟩
theorem Inv.unpinned {pins pl : List (Addr × Obj)} {σ : St} {H : Hp} {s : Shared} (I : Inv X (pins ++ pl) σ H s) : Inv X pins σ H s := I.pins_of fun p hp => I.pin p (List.mem_append_right _ (List.mem_append_left _ hp))
theorem ps_for {iter : Expr} {body : List Stmt} {wi : TI} {g : TG} {tb : TS} {pos : Pos} (hp : PassesOwn (model X.prog X.w) X.A X.env X.xe) (hc : X.calm = true) (hi : PI X tg iter wi) (hg : PG X tg g) (hb : PSs X body tb)
    (hs : ∀ x, foldedSetIterable iter X.env x = pure x := by intro _; rfl) : PS X (.For tg iter body [] pos) (tFor wi g tb) := by
  intro pins s σ H D I h
  refine wpAny_For (thn (hi pins s σ H _ I h) fun v s1 h1 => thn h1 fun itv s2 h2 => ?_) hs
  obtain ⟨it, fp, tn, J, H2, e, I2, T, st2, f2, W, ⟨m0, w0⟩, turn⟩ := h2
  subst e
  -- what stays true of the iterator's objects through the loop
  have stat : ∀ {H' : Hp}, (∀ b ∈ fp, H' b = none) → ∀ b ∈ fp, FpOk X pins H' b := fun hn b hb => ⟨hn b hb, (f2 b hb).2⟩
  refine codeAny_forLoop_any (fun n s' => ∃ i σ' H', Inv X pins σ' H' s' ∧ tn i s'.heap ∧ (∀ b ∈ fp, H' b = none) ∧ W i n σ' H') ?_ m0 ⟨0, σ, H2, I2, st2, fun b hb => (f2 b hb).1, w0⟩
  rintro n s3 ⟨i, σ3, H3, I3, st3, fr3, w3⟩
  rcases turn i n σ3 H3 w3 with ⟨stop, qn⟩ | ⟨go, N, hN, step⟩
  · refine wpAny_passesOwn hp (thn (T.done X rfl rfl rfl hc i pins s3 σ3 H3 X.xe I3 (stat fr3) st3 stop) fun r s4 ⟨hr, I4⟩ => ?_)
    subst hr
    exact wpAny_execs_nil ⟨σ3, H3, I4, qn⟩
  · refine wpAny_passesOwn hp (thn (T.item X rfl rfl rfl hc i pins s3 σ3 H3 X.xe I3 (stat fr3) st3 go) fun r s4 ⟨u, hr, h4⟩ => ?_)
    subst hr
    refine wpAny_passesOwn hp (thn h4 fun _ s5 ⟨x, H5, I5, r5, y5, st5, fr5⟩ => ?_)
    have I5' := I5.pinned (stat fr5) (T.obj _ _ st5)
    refine wpAny_passesOwn hp (thn (hg _ s5 σ3 H5 x u _ I5' r5 (step x H5 y5)) fun _ s6 ⟨σ6, H6, I6, q6⟩ => ?_)
    refine wpAny_passesOwn hp (thn (hb _ s6 σ6 H6 _ I6 q6) fun f s7 q7 => ?_)
    have again : ∀ {σ7 : St} {H7 : Hp}, Inv X (pins ++ pinsAt fp s5.heap) σ7 H7 s7 → N σ7 H7 → ∃ m, m < n ∧ ∃ i σ' H', Inv X pins σ' H' s7 ∧ tn i s7.heap ∧ (∀ b ∈ fp, H' b = none) ∧ W i m σ' H' := fun {σ7 H7} I7 n7 => by
      obtain ⟨m', hm, w7⟩ := hN σ7 H7 n7
      refine ⟨m', hm, i + 1, σ7, H7, I7.unpinned, T.keep _ _ _ st5 fun b hb o e => (I7.pin (b, o) (List.mem_append_right _ (List.mem_append_right _ (mem_pinsAt hb e)))).1, fun b hb => ?_, w7⟩
      obtain ⟨o, e, d⟩ := T.obj _ _ st5 b hb
      exact (I7.pin (b, o) (List.mem_append_right _ (List.mem_append_right _ (mem_pinsAt hb e)))).2.1
    cases f with
    | next => obtain ⟨σ7, H7, I7, n7⟩ := q7; exact again I7 n7
    | cont => obtain ⟨σ7, H7, I7, n7⟩ := q7; exact again I7 n7
    | brk => obtain ⟨σ7, H7, I7, q7⟩ := q7; exact ⟨σ7, H7, I7.unpinned, q7⟩
    | ret v => obtain ⟨x7, σ7, H7, I7, r7, q7⟩ := q7; exact ⟨x7, σ7, H7, I7.unpinned, r7, q7⟩
end

/-! ### the forms one uses -/
/-- over a list that the body leaves as it is -/
theorem for_list {K : PySem.W.Frag} {a : Addr} {xs : List V} {g : TG} {tb : TS} {D : Ends} {σ : St} {H : Hp} (Pv : Nat → St → Hp → Prop) (h0 : Pv 0 σ H) (hl : ∀ i σ H, i ≤ xs.length → Pv i σ H → SqL K H a xs)
    (hs : ∀ i x σ H, xs[i]? = some x → Pv i σ H → g x σ H fun σ2 H2 => tb { D with nx := Pv (i + 1), ct := Pv (i + 1), bk := D.nx } σ2 H2) (hd : ∀ σ H, Pv xs.length σ H → D.nx σ H) :
    ∃ W : Nat → Nat → St → Hp → Prop, (∃ m, W 0 m σ H) ∧ ∀ i m σ H, W i m σ H →
      ((Itl K a).stop i H ∧ D.nx σ H) ∨ ((Itl K a).go i H ∧ ∃ N : St → Hp → Prop, (∀ σ' H', N σ' H' → ∃ m', m' < m ∧ W (i + 1) m' σ' H') ∧ ∀ x H', (Itl K a).yld i H x H' → g x σ H' fun σ2 H2 => tb { D with nx := N, ct := N, bk := D.nx } σ2 H2) := by
  refine ⟨fun i m σ H => m = xs.length - i ∧ i ≤ xs.length ∧ Pv i σ H, ⟨xs.length, by simp, Nat.zero_le _, h0⟩, ?_⟩
  rintro i m σ H ⟨rfl, hi, p⟩
  have q := hl i σ H hi p
  by_cases hlt : i < xs.length
  · refine .inr ⟨⟨xs, xs[i], q, by simp [hlt]⟩, Pv (i + 1), fun σ' H' p' => ⟨xs.length - (i + 1), by omega, rfl, hlt, p'⟩, fun x H' y => ?_⟩
    obtain ⟨e, y⟩ := y
    subst e
    exact hs i x σ _ (y xs q) p
  · have e : i = xs.length := by omega
    subst e
    exact .inl ⟨⟨xs, q, Nat.le_refl _⟩, hd σ H p⟩
theorem for_range {lo : Int} {n : Nat} {g : TG} {tb : TS} {D : Ends} {σ : St} {H : Hp} (Pv : Nat → St → Hp → Prop) (h0 : Pv 0 σ H)
    (hs : ∀ i σ H, i < n → Pv i σ H → g (.int (lo + i)) σ H fun σ2 H2 => tb { D with nx := Pv (i + 1), ct := Pv (i + 1), bk := D.nx } σ2 H2) (hd : ∀ σ H, Pv n σ H → D.nx σ H) :
    ∃ W : Nat → Nat → St → Hp → Prop, (∃ m, W 0 m σ H) ∧ ∀ i m σ H, W i m σ H →
      ((Itr lo n).stop i H ∧ D.nx σ H) ∨ ((Itr lo n).go i H ∧ ∃ N : St → Hp → Prop, (∀ σ' H', N σ' H' → ∃ m', m' < m ∧ W (i + 1) m' σ' H') ∧ ∀ x H', (Itr lo n).yld i H x H' → g x σ H' fun σ2 H2 => tb { D with nx := N, ct := N, bk := D.nx } σ2 H2) := by
  refine ⟨fun i m σ H => m = n - i ∧ i ≤ n ∧ Pv i σ H, ⟨n, by simp, Nat.zero_le _, h0⟩, ?_⟩
  rintro i m σ H ⟨rfl, hi, p⟩
  by_cases hlt : i < n
  · refine .inr ⟨hlt, Pv (i + 1), fun σ' H' p' => ⟨n - (i + 1), by omega, rfl, hlt, p'⟩, fun x H' y => ?_⟩
    obtain ⟨e, y⟩ := y
    subst e y
    exact hs i σ _ hlt p
  · have e : i = n := by omega
    subst e
    exact .inl ⟨Nat.le_refl _, hd σ H p⟩
end L2

namespace L2
open PySem PySem.Spec PyProof.Rows

abbrev R2 := V → V → Hp → VK → Prop
/-- a two-place operation on values: f is binaryOp op, inplaceOp op or compareOp op -/
def OpR (X : Cx) (f : Value → Value → Sem Value) (r : R2) : Prop :=
  ∀ (pins : List (Addr × Obj)) (s : Shared) (σ : St) (H : Hp) (x y : V) (v u : Value) (Q : VK), Inv X pins σ H s → RelV x v → RelV y u → r x y H Q →
    wpAny (model X.prog X.w) X.A (f v u) (EP X pins σ Q) X.xe s
/-- a one-place operation -/
def UnR (X : Cx) (f : Value → Sem Value) (r : V → Hp → VK → Prop) : Prop :=
  ∀ (pins : List (Addr × Obj)) (s : Shared) (σ : St) (H : Hp) (x : V) (v : Value) (Q : VK), Inv X pins σ H s → RelV x v → r x H Q →
    wpAny (model X.prog X.w) X.A (f v) (EP X pins σ Q) X.xe s
/-- a call of a value that is known (a builtin, a type) with values -/
def CallR (X : Cx) (f : Value) (r : List V → Hp → VK → Prop) : Prop :=
  ∀ (pins : List (Addr × Obj)) (s : Shared) (σ : St) (H : Hp) (xs : List V) (us : List Value) (Q : VK), Inv X pins σ H s → Vals xs us → r xs H Q →
    wpAny (model X.prog X.w) X.A (call f us) (EP X pins σ Q) X.xe s
/-- a value's truth -/
def TruR (X : Cx) (r : V → Hp → (Bool → Hp → Prop) → Prop) : Prop :=
  ∀ (pins : List (Addr × Obj)) (s : Shared) (σ : St) (H : Hp) (x : V) (v : Value) (Q : Bool → Hp → Prop), Inv X pins σ H s → RelV x v → r x H Q →
    wpAny (model X.prog X.w) X.A (truthy v) (TP X pins σ Q) X.xe s

def tOp (r : R2) (ta tb : TE) : TE := fun σ H Q => ta σ H fun x H1 => tb σ H1 fun y H2 => r x y H2 Q
def tUn (r : V → Hp → VK → Prop) (ta : TE) : TE := fun σ H Q => ta σ H fun x H1 => r x H1 Q
/-- ints in, under C, and a value out -/
def rI (C : Int → Int → Prop) (g : Int → Int → V) : R2 := fun x y H Q => ∃ i j, x = .int i ∧ y = .int j ∧ C i j ∧ Q (g i j) H
def rI0 (g : Int → Int → V) : R2 := fun x y H Q => ∃ i j, x = .int i ∧ y = .int j ∧ Q (g i j) H
def rU (g : Int → V) : V → Hp → VK → Prop := fun x H Q => ∃ i, x = .int i ∧ Q (g i) H

section
variable {X : Cx} {a b c : Expr} {ta tb tc : TE} {pos : Pos}

theorem binT (ha : PE X a ta) (hb : PE X b tb) {pins : List (Addr × Obj)} {s : Shared} {σ : St} {H : Hp} {R : V → V → Hp → Prop} (I : Inv X pins σ H s)
    (h : ta σ H fun x H1 => tb σ H1 fun y H2 => R x y H2) {Q : Value → Shared → Prop} {f : Value → Value → Sem Value}
    (hf : ∀ v u s2 x y H2, Inv X pins σ H2 s2 → RelV x v → RelV y u → R x y H2 → wpAny (model X.prog X.w) X.A (f v u) Q X.xe s2) :
    wpAny (model X.prog X.w) X.A (eval a X.env) (fun v s₁ => wpAny (model X.prog X.w) X.A (eval b X.env) (fun u s₂ => wpAny (model X.prog X.w) X.A (f v u) Q X.xe s₂) X.xe s₁) X.xe s := by
  refine thn (ha pins s σ H _ I h) fun v s1 ⟨x, H1, I1, r1, q1⟩ => ?_
  refine thn (hb pins s1 σ H1 _ I1 q1) fun u s2 ⟨y, H2, I2, r2, q2⟩ => ?_
  exact hf v u s2 x y H2 I2 r1 r2 q2

theorem pe_op {op : Operator} {r : R2} (ho : OpR X (binaryOp op) r) (ha : PE X a ta) (hb : PE X b tb) : PE X (.BinOp a op b pos) (tOp r ta tb) := by
  intro pins s σ H Q I h
  exact wpAny_BinOp (binT ha hb I h fun v u s2 x y H2 I2 rx ry q => ho pins s2 σ H2 x y v u Q I2 rx ry q)
theorem pe_un {op : UnaryOp} {r : V → Hp → VK → Prop} (ho : UnR X (unaryOp op) r) (ha : PE X a ta) : PE X (.UnaryOp op a pos) (tUn r ta) := by
  intro pins s σ H Q I h
  exact UnaryOp_ (thn (ha pins s σ H _ I h) fun v s1 ⟨x, H1, I1, r1, q1⟩ => ho pins s1 σ H1 x v Q I1 r1 q1)
/-! ### ints -/
theorem opI {f : Value → Value → Sem Value} {C : Int → Int → Prop} {g : Int → Int → Int}
    (rule : ∀ (i j : Int) (t u : Tok) (s : Shared) (Q : Value → Shared → Prop) (E : Value → Shared → Prop), C i j → Q (.int (g i j) s.toks) { s with toks := s.toks + 1 } → wpAny (model X.prog X.w) X.A (f (.int i t) (.int j u)) Q E s) :
    OpR X f (rI C fun i j => .int (g i j)) := by
  intro pins s σ H x y v u Q I rx ry h
  obtain ⟨i, j, rfl, rfl, hc, q⟩ := h
  obtain ⟨t, rfl⟩ := rx
  obtain ⟨t', rfl⟩ := ry
  exact rule i j t t' s _ _ hc ⟨.int (g i j), H, I.tok _, ⟨_, rfl⟩, q⟩
theorem opI0 {f : Value → Value → Sem Value} {g : Int → Int → Int}
    (rule : ∀ (i j : Int) (t u : Tok) (s : Shared) (Q : Value → Shared → Prop) (E : Value → Shared → Prop), Q (.int (g i j) s.toks) { s with toks := s.toks + 1 } → wpAny (model X.prog X.w) X.A (f (.int i t) (.int j u)) Q E s) :
    OpR X f (rI0 fun i j => .int (g i j)) := by
  intro pins s σ H x y v u Q I rx ry h
  obtain ⟨i, j, rfl, rfl, q⟩ := h
  obtain ⟨t, rfl⟩ := rx
  obtain ⟨t', rfl⟩ := ry
  exact rule i j t t' s _ _ ⟨.int (g i j), H, I.tok _, ⟨_, rfl⟩, q⟩
theorem opB0 {f : Value → Value → Sem Value} {g : Int → Int → Bool}
    (rule : ∀ (i j : Int) (t u : Tok) (s : Shared) (Q : Value → Shared → Prop) (E : Value → Shared → Prop), Q (.bool (g i j)) s → wpAny (model X.prog X.w) X.A (f (.int i t) (.int j u)) Q E s) :
    OpR X f (rI0 fun i j => .bl (g i j)) := by
  intro pins s σ H x y v u Q I rx ry h
  obtain ⟨i, j, rfl, rfl, q⟩ := h
  obtain ⟨t, rfl⟩ := rx
  obtain ⟨t', rfl⟩ := ry
  exact rule i j t t' s _ _ ⟨.bl (g i j), H, I, rfl, q⟩

def CDiv (i j : Int) : Prop := 0 < j ∧ j < 1073741824
def CDivN (i j : Int) : Prop := j ≠ 0 ∧ j.natAbs < 1073741824
def CPow (i j : Int) : Prop := 0 ≤ j ∧ j ≤ 1000000 ∧ i.natAbs < 2 ^ 64
def CMul (i j : Int) : Prop := (-(2 ^ 64) < i ∧ i < 2 ^ 64) ∨ (-(2 ^ 64) < j ∧ j < 2 ^ 64)
theorem CMul.ok {i j : Int} (h : CMul i j) : IntMulOk i j := by
  rcases h with ⟨h1, h2⟩ | ⟨h1, h2⟩
  · exact .of_left (intBits_le_64 h1 h2)
  · exact .of_right (intBits_le_64 h1 h2)
theorem op_add : OpR X (binaryOp .Add) (rI0 fun i j => .int (i + j)) := opI0 fun _ _ _ _ _ _ _ q => add_int q
theorem op_sub : OpR X (binaryOp .Sub) (rI0 fun i j => .int (i - j)) := opI0 fun _ _ _ _ _ _ _ q => sub_int q
theorem op_mul : OpR X (binaryOp .Mult) (rI CMul fun i j => .int (i * j)) := opI fun _ _ _ _ _ _ _ hc q => mul_int q hc.ok
/-- // by a positive divisor -/
theorem op_fdiv : OpR X (binaryOp .FloorDiv) (rI CDiv fun i j => .int (i / j)) := opI fun i j _ _ _ _ _ hc q => by
  have h1 : (0 : Int) < j := hc.1
  have h2 : j < 1073741824 := hc.2
  exact floordiv_int (by omega) (by rw [Int.fdiv_eq_ediv_of_nonneg i (by omega)]; exact q) (.inl (PyProof.noPylong_small (by omega)))
/-- % by a positive divisor of any size -/
theorem op_mod : OpR X (binaryOp .Mod) (rI (fun _ j => 0 < j) fun i j => .int (i % j)) := opI fun i j _ _ _ _ _ hc q => by
  have h1 : (0 : Int) < j := hc
  exact mod_int' (by omega) (by rw [Int.fmod_eq_emod_of_nonneg i (by omega)]; exact q)
theorem op_pow : OpR X (binaryOp .Pow) (rI CPow fun i j => .int (i ^ j.toNat)) := opI fun _ _ _ _ _ _ _ hc q => pow_int_small hc.1 hc.2.1 hc.2.2 q
theorem unI {f : Value → Sem Value} {g : Int → Int}
    (rule : ∀ (i : Int) (t : Tok) (s : Shared) (Q : Value → Shared → Prop) (E : Value → Shared → Prop), Q (.int (g i) s.toks) { s with toks := s.toks + 1 } → wpAny (model X.prog X.w) X.A (f (.int i t)) Q E s) :
    UnR X f (rU fun i => .int (g i)) := by
  intro pins s σ H x v Q I rx h
  obtain ⟨i, rfl, q⟩ := h
  obtain ⟨t, rfl⟩ := rx
  exact rule i t s _ _ ⟨.int (g i), H, I.tok _, ⟨_, rfl⟩, q⟩
theorem un_neg : UnR X (unaryOp .USub) (rU fun i => .int (-i)) := unI fun _ _ _ _ _ q => neg_int q
/-! ### bools among ints: n += (a < b) -/
end

/-! ### comparisons -/
/-- the scalars that == tells apart as data does -/
def scal : V → V → Bool
  | .non, .non => true | .non, .int _ => true | .int _, .non => true | .non, .bl _ => true | .bl _, .non => true | .non, .str _ => true | .str _, .non => true
  | .int _, .int _ => true | .bl _, .bl _ => true | .str _, .str _ => true | .byt _, .byt _ => true
  | .int _, .str _ => true | .str _, .int _ => true | .bl _, .str _ => true | .str _, .bl _ => true
  | _, _ => false
def rEq : R2 := fun x y H Q => scal x y = true ∧ Q (.bl (decide (x = y))) H
def rNe : R2 := fun x y H Q => scal x y = true ∧ Q (.bl (!decide (x = y))) H

section
variable {X : Cx} {a b c : Expr} {ta tb tc : TE} {pos : Pos}
theorem op_lt : OpR X (compareOp .Lt) (rI0 fun i j => .bl (decide (i < j))) := opB0 fun _ _ _ _ _ _ _ q => lt_int q
theorem op_le : OpR X (compareOp .LtE) (rI0 fun i j => .bl (decide (i ≤ j))) := opB0 fun _ _ _ _ _ _ _ q => le_int q
theorem op_gt : OpR X (compareOp .Gt) (rI0 fun i j => .bl (decide (j < i))) := opB0 fun _ _ _ _ _ _ _ q => gt_int q
theorem op_ge : OpR X (compareOp .GtE) (rI0 fun i j => .bl (decide (j ≤ i))) := opB0 fun _ _ _ _ _ _ _ q => ge_int q
/-- is, is not of two objects that are tracked lists or instances -/
def isObj : HO → Bool
  | .lst _ => true
  | .ins _ _ _ => true
  | _ => false
/-- two rules for one operation: by cases -/
theorem OpR.or {f : Value → Value → Sem Value} {r r' : R2} (h : OpR X f r) (h' : OpR X f r') : OpR X f (fun x y H Q => r x y H Q ∨ r' x y H Q) := by
  intro pins s σ H x y v u Q I rx ry q
  rcases q with q | q
  · exact h pins s σ H x y v u Q I rx ry q
  · exact h' pins s σ H x y v u Q I rx ry q

theorem nomark (b : Expr) {op : CmpOp} (h : op ≠ .In := by decide) (h2 : op ≠ .NotIn := by decide) : behindInMarks op b = false := by
  have e1 : (op == CmpOp.In) = false := by cases op <;> first | rfl | exact absurd rfl h
  have e2 : (op == CmpOp.NotIn) = false := by cases op <;> first | rfl | exact absurd rfl h2
  cases b <;> simp [behindInMarks, e1, e2]
/-- a comparison as a value; hm: nomark b, or (for in, not in) by with_unfolding_all rfl -/
theorem pe_cmpR {op : CmpOp} {r : R2} (ho : OpR X (compareOp op) r) (ha : PE X a ta) (hb : PE X b tb) (hm : behindInMarks op b = false) : PE X (.Compare a [op] [b] pos) (tOp r ta tb) := by
  intro pins s σ H Q I h
  exact wpAny_Compare1 (binT ha hb I h fun v u s2 x y H2 I2 rx ry q => ho pins s2 σ H2 x y v u Q I2 rx ry q) hm
/-- a reading of a value as a test -/
def tTest (t : TE) : TT := fun σ H Q => t σ H fun x H' => ∃ k, x = .bl k ∧ Q k H'
theorem pt_cmpR {op : CmpOp} {r : R2} (ho : OpR X (compareOp op) r) (ha : PE X a ta) (hb : PE X b tb) (hm : behindInMarks op b = false) : PT X (.Compare a [op] [b] pos) (tTest (tOp r ta tb)) := by
  intro pins s σ H Q I h
  refine wpAny_isTrue_Compare1 (thn (ha pins s σ H _ I h) fun v s1 ⟨x, H1, I1, r1, q1⟩ => thn (hb pins s1 σ H1 _ I1 q1) fun u s2 ⟨y, H2, I2, r2, q2⟩ =>
    thn (ho pins s2 σ H2 x y v u _ I2 r1 r2 q2) fun c s3 ⟨z, H3, I3, r3, k, e, q3⟩ => ?_) hm
  subst e
  cases r3
  exact wpAny_truthy_bool ⟨H3, I3, q3⟩
/-- a op1 b op2 c -/
def tChain (r r' : R2) (ta tb tc : TE) : TE := fun σ H Q => ta σ H fun x H1 => tb σ H1 fun y H2 => r x y H2 fun z H3 => ∃ k, z = .bl k ∧
  (if k = true then tc σ H3 fun w' H4 => r' y w' H4 Q else Q (.bl false) H3)
theorem pt_chain {op op' : CmpOp} {r r' : R2} (ho : OpR X (compareOp op) r) (ho' : OpR X (compareOp op') r') (ha : PE X a ta) (hb : PE X b tb) (hc : PE X c tc)
    (hm : lastMarks [op, op'] [b, c] = false := by with_unfolding_all rfl) : PT X (.Compare a [op, op'] [b, c] pos) (tTest (tChain r r' ta tb tc)) := by
  intro pins s σ H Q I h
  refine isTrue_chain (thn (ha pins s σ H _ I h) fun v s1 ⟨x, H1, I1, r1, q1⟩ => test_link (thn (hb pins s1 σ H1 _ I1 q1) fun u s2 ⟨y, H2, I2, r2, q2⟩ =>
    thn (ho pins s2 σ H2 x y v u _ I2 r1 r2 q2) fun d s3 ⟨z, H3, I3, r3, k, e, q3⟩ => ?_)) hm
  subst e
  cases r3
  refine wpAny_truthy_bool ?_
  cases k with
  | false =>
    obtain ⟨k', e', q'⟩ := q3
    cases e'
    exact ite_ff ⟨H3, I3, q'⟩
  | true =>
    refine ite_tt (test_last (thn (hc pins s3 σ H3 _ I3 q3) fun w' s4 ⟨z', H4, I4, r4, q4⟩ => thn (ho' pins s4 σ H4 y z' u w' _ I4 r2 r4 q4) fun d' s5 ⟨z2, H5, I5, r5, k2, e2, q5⟩ => ?_))
    subst e2
    cases r5
    exact wpAny_truthy_bool ⟨H5, I5, q5⟩

/-! ### truth -/
/-- a value's truth by the abstract heap -/
def TruV (K : PySem.W.Frag) (x : V) (H : Hp) (k : Bool) : Prop :=
  match x with
  | .non => k = false
  | .bl b => k = b
  | .int i => k = (i != 0)
  | .str y => y.length ≤ sizeLine ∧ k = ((y.length : Int) != 0)
  | .byt y => y.size ≤ sizeLine ∧ k = ((y.size : Int) != 0)
  | .ref p => (∃ xs, SqL K H p xs ∧ k = !xs.isEmpty) ∨ (∃ xs, SqT K H p xs ∧ k = !xs.isEmpty) ∨ ∃ kvs, H p = some (.dK kvs) ∧ k = !kvs.isEmpty
  | _ => False
theorem isEmpty_kv {κ : Type} {kvs : List (κ × V)} {vs : List (κ × Value)} (r : KV kvs vs) : (!vs.isEmpty) = !kvs.isEmpty := by
  cases r <;> rfl
theorem isEmpty_of {xs : List V} {its : List Value} (r : Vals xs its) : (!its.toArray.isEmpty) = !xs.isEmpty := by
  cases r <;> simp
theorem line63 : (sizeLine : Nat) < 2 ^ 63 := by rw [sizeLine_eq]; decide
theorem tru_ok : TruR X (fun x H Q => ∃ k, TruV X.K x H k ∧ Q k H) := by
  intro pins s σ H x v Q I rx h
  obtain ⟨k, e, q⟩ := h
  have hl := line63
  have hs : sizeLine = 16777216 := sizeLine_eq
  cases x with
  | non =>
    cases rx
    have e' : k = false := e
    subst e'
    exact truthy_none ⟨H, I, q⟩
  | bl b =>
    cases rx
    have e' : k = b := e
    subst e'
    exact wpAny_truthy_bool ⟨H, I, q⟩
  | int i =>
    obtain ⟨t, rfl⟩ := rx
    have e' : k = (i != 0) := e
    subst e'
    exact PySem.P.truthy_int ⟨H, I, q⟩
  | str y =>
    obtain ⟨t, rfl⟩ := rx
    obtain ⟨hy, e'⟩ : y.length ≤ sizeLine ∧ k = ((y.length : Int) != 0) := e
    subst e'
    exact PySem.P.truthy_str (by omega) ⟨H, I.tok _, q⟩
  | byt y =>
    obtain ⟨t, rfl⟩ := rx
    obtain ⟨hy, e'⟩ : y.size ≤ sizeLine ∧ k = ((y.size : Int) != 0) := e
    subst e'
    exact PySem.W.truthy_bytes (by omega) ⟨H, I.tok _, q⟩
  | ref p =>
    cases rx
    have e' : (∃ xs, SqL X.K H p xs ∧ k = !xs.isEmpty) ∨ (∃ xs, SqT X.K H p xs ∧ k = !xs.isEmpty) ∨ ∃ kvs, H p = some (.dK kvs) ∧ k = !kvs.isEmpty := e
    rcases e' with ⟨xs, hx, e'⟩ | ⟨xs, hx, e'⟩ | ⟨kvs, hx, e'⟩
    · subst e'
      obtain ⟨its, r, pl, hz⟩ := I.list hx
      have hlen := r.length
      exact wpAny_truthy_list pl.isList (by simp only [List.size_toArray]; omega) ⟨H, I.tok _, by rw [isEmpty_of r]; exact q⟩
    · subst e'
      obtain ⟨its, r, pl, hz⟩ := I.tuple hx
      have hlen := r.length
      exact truthy_tuple pl (by simp only [List.size_toArray]; omega) ⟨H, I.tok _, by rw [isEmpty_of r]; exact q⟩
    · subst e'
      obtain ⟨hz, hS, vs, r, m⟩ : kvs.length ≤ sizeLine ∧ (p == sysModules) = false ∧ ∃ vs, KV kvs vs ∧ s.heap.DictOf (mixKind X.prog X.w) p vs := I.hok p _ hx
      have hlen : kvs.length = vs.length := Paired.length r
      exact wpAny_truthy_dict hS m (by omega) ⟨H, I.tok _, by rw [isEmpty_kv r]; exact q⟩
  | _ => exact (show False from e).elim
/-- any expression whose test is its value's truth (a name, a call, a subscript, a field ..: he by fun _ => rfl) -/
theorem pt_truth (ha : PE X a ta) (he : ∀ whole, isTrue a X.env whole = (do let v ← whole; standAt a.pos; holding [v] (truthy v))) :
    PT X a (fun σ H Q => ta σ H fun x H' => ∃ k, TruV X.K x H' k ∧ Q k H') := by
  intro pins s σ H Q I h
  exact isTrue_plain (thn (ha pins s σ H _ I h) fun v s1 ⟨x, H1, I1, r1, q1⟩ => tru_ok pins s1 σ H1 x v Q I1 r1 q1) (he _)

/-! ### strs and bytes -/
def PlainIxT (b : Expr) : Prop := ∀ o i, subscripted b false o i = operate [o, i] (getItem o i)
/-! ### scalar builtins, by CallR -/
theorem vals1 {x : V} {us : List Value} (r : Vals [x] us) : ∃ u, us = [u] ∧ RelV x u := by
  cases r with
  | cons r1 r2 => cases r2; exact ⟨_, rfl, r1⟩
theorem vals2 {x y : V} {us : List Value} (r : Vals [x, y] us) : ∃ u w', us = [u, w'] ∧ RelV x u ∧ RelV y w' := by
  cases r with
  | cons r1 r2 =>
    cases r2 with
    | cons r3 r4 => cases r4; exact ⟨_, _, rfl, r1, r3⟩
theorem call_max2 (hc : X.calm = true) : CallR X (.builtin "max") (fun xs H Q => ∃ i j, xs = [.int i, .int j] ∧ Q (.int (if j > i then j else i)) H) := by
  intro pins s σ H xs us Q I r h
  obtain ⟨i, j, rfl, q⟩ := h
  obtain ⟨u, w', rfl, ⟨t, rfl⟩, ⟨t', rfl⟩⟩ := vals2 r
  refine max_two_ints (I.ok.hd hc) fun h' tk k => ⟨_, H, I.kept k, ?_, q⟩
  by_cases hj : j > i
  · rw [if_pos hj, if_pos hj]; exact ⟨_, rfl⟩
  · rw [if_neg hj, if_neg hj]; exact ⟨_, rfl⟩
theorem call_min2 (hc : X.calm = true) : CallR X (.builtin "min") (fun xs H Q => ∃ i j, xs = [.int i, .int j] ∧ Q (.int (if j < i then j else i)) H) := by
  intro pins s σ H xs us Q I r h
  obtain ⟨i, j, rfl, q⟩ := h
  obtain ⟨u, w', rfl, ⟨t, rfl⟩, ⟨t', rfl⟩⟩ := vals2 r
  refine min_two_ints (I.ok.hd hc) fun h' tk k => ⟨_, H, I.kept k, ?_, q⟩
  by_cases hj : j < i
  · rw [if_pos hj, if_pos hj]; exact ⟨_, rfl⟩
  · rw [if_neg hj, if_neg hj]; exact ⟨_, rfl⟩
theorem call_int1 : CallR X (.type "int") (fun xs H Q => (∃ i, xs = [.int i] ∧ Q (.int i) H) ∨ ∃ k, xs = [.bl k] ∧ Q (.int (if k then 1 else 0)) H) := by
  intro pins s σ H xs us Q I r h
  rcases h with ⟨i, rfl, q⟩ | ⟨k, rfl, q⟩
  · obtain ⟨u, rfl, t, rfl⟩ := vals1 r
    exact call_int_int ⟨.int i, H, I, ⟨_, rfl⟩, q⟩
  · obtain ⟨u, rfl, r1⟩ := vals1 r
    cases r1
    exact call_int_bool ⟨.int (if k then 1 else 0), H, I.tok _, ⟨_, rfl⟩, q⟩
/-- len of a str, a bytes, a list, a tuple -/
def LenV (K : PySem.W.Frag) (x : V) (H : Hp) (n : Nat) : Prop :=
  match x with
  | .str y => y.length ≤ sizeLine ∧ n = y.length
  | .byt y => y.size ≤ sizeLine ∧ n = y.size
  | .ref p => (∃ xs, SqL K H p xs ∧ n = xs.length) ∨ ∃ xs, SqT K H p xs ∧ n = xs.length
  | _ => False
theorem call_len : CallR X (.builtin "len") (fun xs H Q => ∃ x n, xs = [x] ∧ LenV X.K x H n ∧ Q (.int n) H) := by
  intro pins s σ H xs us Q I r h
  obtain ⟨x, n, rfl, e, q⟩ := h
  obtain ⟨u, rfl, rx⟩ := vals1 r
  have hl := line63
  have hs : sizeLine = 16777216 := sizeLine_eq
  cases x with
  | str y =>
    obtain ⟨t, rfl⟩ := rx
    obtain ⟨hy, e'⟩ : y.length ≤ sizeLine ∧ n = y.length := e
    subst e'
    exact len_str (by omega) ⟨.int _, H, I.tok _, ⟨_, rfl⟩, q⟩
  | byt y =>
    obtain ⟨t, rfl⟩ := rx
    obtain ⟨hy, e'⟩ : y.size ≤ sizeLine ∧ n = y.size := e
    subst e'
    exact PySem.W.len_bytes (by omega) ⟨.int _, H, I.tok _, ⟨_, rfl⟩, q⟩
  | ref p =>
    cases rx
    have e' : (∃ xs, SqL X.K H p xs ∧ n = xs.length) ∨ ∃ xs, SqT X.K H p xs ∧ n = xs.length := e
    rcases e' with ⟨xs, hx, e'⟩ | ⟨xs, hx, e'⟩
    · subst e'
      obtain ⟨its, r', pl, hz⟩ := I.list hx
      have hlen := r'.length
      exact Calls.call_len_list pl.isList (by simp only [List.size_toArray]; omega) ⟨.int xs.length, H, I.tok _, ⟨_, by simp only [List.size_toArray]; rw [hlen]⟩, q⟩
    · subst e'
      obtain ⟨its, r', pl, hz⟩ := I.tuple hx
      have hlen := r'.length
      exact len_tuple pl (by simp only [List.size_toArray]; omega) ⟨.int xs.length, H, I.tok _, ⟨_, by simp only [List.size_toArray]; rw [hlen]⟩, q⟩
  | _ => exact (show False from e).elim
end
end L2

namespace L2
open PySem PySem.Spec PyProof.Rows

/-! ### an instance, its attributes a map -/
structure ObjM (h : Heap) (x dx C : Addr) (mA : Str → Option Value) : Prop where
  obj : h.get? x = some (PySem.W.instObj C dx)
  ns : h.Ns1 dx mA
  ne : dx ≠ x

theorem lookIn_ns {h : Heap} {dx : Addr} {mA : Str → Option Value} (n : h.Ns1 dx mA) : ∃ od, h.get? dx = some od ∧ ∀ name, PySem.W.lookIn name od = some (mA name) := by
  obtain ⟨o, es, ep, ho, hd, hk, _, hm⟩ := n
  refine ⟨o, ho, fun name => ?_⟩
  have e := hm name
  unfold nsFind findBy at e
  rw [← Array.find?_toList] at e
  unfold PySem.W.lookIn
  rw [hd]
  dsimp only
  split
  · rename_i y q
    rw [q] at e
    exact congrArg some e
  · rename_i q
    rw [q] at e
    have a : es.toList.any (·.refKey) = false := by
      rw [List.any_eq_false]
      intro y hy
      obtain ⟨z, t, hkey⟩ := hk y (Array.mem_toList_iff.mp hy)
      simp [DictEntry.refKey, hkey]
    have a' : ¬ es.toList.any (·.refKey) = true := by rw [a]; exact Bool.false_ne_true
    rw [if_neg a']
    exact congrArg some e

theorem ObjM.look {h : Heap} {x dx C : Addr} {mA : Str → Option Value} (I : ObjM h x dx C mA) : ∃ od, PySem.W.InstAt h x (PySem.W.instObj C dx) C (some od) ∧ ∀ name, PySem.W.lookIn name od = some (mA name) :=
  let ⟨od, ho, hl⟩ := lookIn_ns I.ns
  ⟨od, ⟨I.obj, rfl, rfl, ho⟩, hl⟩

section
variable {prog : Program} {w : World} {A : Around} {E : Value → Shared → Prop} {s : Shared} {K : PySem.W.Frag} {x dx C f : Addr} {mA : Str → Option Value} {name : Str} {v : Value}

theorem get_map {expr : Bool} {Q : Value → Shared → Prop} (X : K.In s.heap) (I : ObjM s.heap x dx C mA) (hg : PySem.W.plainGet K C name = true) (hh : PySem.W.hasDictIn K C = true)
    (ha : PySem.W.findIn K (.ref C) name = some none) (hv : mA name = some v) (hv' : PySem.W.handedIn v = true) (h : Q v { s with toks := s.toks + 1 }) :
    wpAny (model prog w) A (getAttr (.ref x) name expr) Q E s := by
  obtain ⟨od, J, hl⟩ := I.look
  exact PySem.W.get_value X J (PySem.W.plainGet_of hg).1 (PySem.W.findObj_own hh ha rfl (by rw [hl, hv])) hv' h

theorem get_meth {pl : Sem Bool} {Q : Value × List Value → Shared → Prop} (X : K.In s.heap) (I : ObjM s.heap x dx C mA) (hg : PySem.W.plainGet K C name = true)
    (hf : PySem.W.findIn K (.ref C) name = some (some (.ref f))) (ht : PySem.W.isFn K (.ref f) = true) (hv : mA name = none) (h : Q (.ref f, [.ref x]) s) :
    wpAny (model prog w) A (getMethod (.ref x) name pl) Q E s := by
  obtain ⟨od, J, hl⟩ := I.look
  exact PySem.W.method_fn X J (PySem.W.plainGet_of hg).1 (PySem.W.plainGet_of hg).2 hf (beq_iff_eq.mp ht) (by show (PySem.W.lookIn name od).map (·.isSome) = some false; rw [hl, hv]; rfl) h

theorem set_map {ns : List Str} {Q : Unit → Shared → Prop} (X : K.In s.heap) (I : ObjM s.heap x dx C mA)
    (hs : PySem.W.findIn K (.ref C) "__setattr__" = some (some (.builtin "object.__setattr__"))) (hp : PySem.W.plainOver K C = true) (ht : PySem.W.takerIn K C name = some none) (hh : PySem.W.hasDictIn K C = true)
    (hw : PySem.Within mA ns) (hsz : ns.length ≤ sizeLine)
    (h : ∀ h', ObjM h' x dx C (fun y => if y = name then some v else mA y) → Heap.SameBut dx s.heap h' → Q () { s with heap := h', toks := s.toks + 2 }) :
    wpAny (model prog w) A (setAttr (.ref x) name v) Q E s := by
  obtain ⟨od, J, hl⟩ := I.look
  refine PySem.W.set_plain X J hs (PySem.W.osa_open (s := { s with toks := s.toks + 1 }) (r := none) X J hp ht fun b => ?_)
  obtain ⟨cd, hc, hd'⟩ := PySem.W.any_some hh
  have hx : s.heap.get? x = some ⟨.ref C, some dx, .plain, #[]⟩ := I.obj
  refine wpAny_bind (wpAny_pure (wpAny_bind (wpAny_bind (wpAny_loadPart hx (wpAny_bind (PySem.W.Looks.here (s := { s with toks := s.toks + 1 }) (PySem.W.looks_clsIn X hc) ?_))))))
  rw [hd']
  refine wpAny_pure (a := some dx) (wpAny_bind (wpAny_pure (wpAny_bind ?_)))
  refine wpAny_nsSet1 (s := { s with toks := s.toks + 1 }) I.ns fun h' hn2 hs2 => ?_
  obtain ⟨oD, esD, epD, hoD, hdD, hcD⟩ := hn2.count (PySem.Within.cons name v hw)
  refine wpAny_bind (wpAny_lookBehind hoD (by rw [hdD]; exact pastItsLine_dict (Nat.le_trans hcD (by rw [List.length_cons]; omega))) ?_)
  exact wpAny_pure (h _ ⟨(hs2.2 _ (Ne.symm I.ne)).trans I.obj, hn2, I.ne⟩ hs2)

/-- C(..): the dict at the heap's end, the instance behind it; then its __init__ -/
theorem make_map {R : Result → Shared → Prop} {vs : List Value} {kw : List (Str × Value)} (X : K.In s.heap) (hm : PySem.W.makesIn K C = true)
    (hi : PySem.W.findIn K (.ref C) "__init__" = some (some (.ref f))) (hf : PySem.W.typeIn K (.ref f) = some (.type "function"))
    (h : codeAny (model prog w) (A.under (.builtin "type.__call__" ⟨.ref C :: vs, kw⟩)) (.call (.ref f) ⟨.ref (s.heap.objs.size + 1) :: vs, kw⟩) (PySem.W.InitBack (s.heap.objs.size + 1) R)
      { s with heap := (s.heap.push PySem.W.emptyDict).push (PySem.W.instObj C s.heap.objs.size) }) :
    codeAny (model prog w) A (.call (.ref C) ⟨vs, kw⟩) R s := by
  obtain ⟨hh, g, d, t, os⟩ := s
  exact PySem.W.make_core (PySem.W.makes_of X hm) (PySem.W.looks_findIn X hi) (fun self => PySem.W.bind_fn X self hf) (.inl rfl) h
end

/-! ### the attributes as a list of pairs -/
def putF (f : Str) (v : V) : List (Str × V) → List (Str × V)
  | [] => [(f, v)]
  | (g, x) :: r => if g = f then (g, v) :: r else (g, x) :: putF f v r
theorem lookup_putF (f g : Str) (v : V) : ∀ fs : List (Str × V), (putF f v fs).lookup g = if g = f then some v else fs.lookup g
  | [] => by
    show List.lookup g [(f, v)] = _
    by_cases h : g = f
    · have hb : (g == f) = true := beq_iff_eq.mpr h
      simp only [List.lookup, hb, if_pos h]
    · have hb : (g == f) = false := beq_eq_false_iff_ne.mpr h
      simp only [List.lookup, hb, if_neg h]
  | (k, x) :: r => by
    have ih := lookup_putF f g v r
    rw [show putF f v ((k, x) :: r) = (if k = f then (k, v) :: r else (k, x) :: putF f v r) from rfl]
    by_cases hk : k = f
    · rw [if_pos hk]
      by_cases h : g = k
      · have hb : (g == k) = true := beq_iff_eq.mpr h
        simp only [List.lookup, hb, if_pos (h.trans hk)]
      · have hb : (g == k) = false := beq_eq_false_iff_ne.mpr h
        simp only [List.lookup, hb, if_neg (fun e : g = f => h (e.trans hk.symm))]
    · rw [if_neg hk]
      by_cases h : g = k
      · have hb : (g == k) = true := beq_iff_eq.mpr h
        simp only [List.lookup, hb, if_neg (fun e : g = f => hk (h.symm.trans e))]
      · have hb : (g == k) = false := beq_eq_false_iff_ne.mpr h
        simp only [List.lookup, hb]
        exact ih
theorem keys_putF (f : Str) (v : V) : ∀ fs : List (Str × V), f ∈ (putF f v fs).map (·.1) ∧ ∀ g, g ∈ fs.map (·.1) → g ∈ (putF f v fs).map (·.1)
  | [] => ⟨by simp [putF], fun g h => by simp at h⟩
  | (k, x) :: r => by
    obtain ⟨i1, i2⟩ := keys_putF f v r
    rw [show putF f v ((k, x) :: r) = (if k = f then (k, v) :: r else (k, x) :: putF f v r) from rfl]
    by_cases hk : k = f
    · rw [if_pos hk]
      subst hk
      exact ⟨by simp, fun g h => by simpa using h⟩
    · rw [if_neg hk]
      refine ⟨?_, fun g h => ?_⟩
      · rw [List.map_cons]
        exact List.mem_cons_of_mem _ i1
      · rw [List.map_cons] at h ⊢
        rcases List.mem_cons.mp h with e | e
        · exact List.mem_cons.mpr (.inl e)
        · exact List.mem_cons_of_mem _ (i2 g e)
theorem length_putF (f : Str) (v : V) : ∀ fs : List (Str × V), (putF f v fs).length ≤ fs.length + 1
  | [] => by simp [putF]
  | (k, x) :: r => by
    have ih := length_putF f v r
    rw [show putF f v ((k, x) :: r) = (if k = f then (k, v) :: r else (k, x) :: putF f v r) from rfl]
    by_cases hk : k = f
    · rw [if_pos hk, List.length_cons, List.length_cons]; omega
    · rw [if_neg hk, List.length_cons, List.length_cons]; omega

theorem RelO.some_of {v : V} {o : Option Value} (r : RelO (some v) o) : ∃ u, o = some u ∧ RelV v u := by
  cases o with
  | none => exact (show False from r).elim
  | some u => exact ⟨u, rfl, r⟩
theorem RelO.none_of {o : Option Value} (r : RelO none o) : o = none := by
  cases o with
  | none => rfl
  | some u => exact (show False from r).elim
theorem handed_of {v : V} {u : Value} (r : RelV v u) : PySem.W.handedIn u = true := by
  cases v with
  | non => cases (show u = Value.none from r); rfl
  | bl b => cases (show u = Value.bool b from r); rfl
  | int i => obtain ⟨t, e⟩ := (show ∃ t, u = Value.int i t from r); cases e; rfl
  | str x => obtain ⟨t, e⟩ := (show ∃ t, u = Value.str x t from r); cases e; rfl
  | byt b => obtain ⟨t, e⟩ := (show ∃ t, u = Value.bytes b t from r); cases e; rfl
  | flt b => obtain ⟨t, e⟩ := (show ∃ t, u = Value.float b t from r); cases e; rfl
  | ref a => cases (show u = Value.ref a from r); rfl
  | ty n => cases (show u = Value.type n from r); rfl

section
variable {P : Program} {w : World} {H H' : Hp} {h h' : Heap} {a C dx : Addr} {fs fs' : List (Str × V)}
theorem ins_get (hok : HOk P w H h) (e : H a = some (.ins C dx fs)) : ∃ mA, ObjM h a dx C mA ∧ (∀ f, RelO (fs.lookup f) (mA f)) ∧ PySem.Within mA (fs.map (·.1)) ∧ fs.length ≤ 1000 ∧ H dx = some (.own a) := by
  obtain ⟨d, z, ne, ob, mA, n, r, q⟩ := (show ObjOk P w H h a (.ins C dx fs) from hok a _ e)
  exact ⟨mA, ⟨ob, n, ne⟩, r, q, z, d⟩
end

/-! ### what of the text a class must have -/
structure Cls (K : PySem.W.Frag) (C : Addr) : Prop where
  pg : PySem.W.plainGet K C Str.empty = true
  hd : PySem.W.hasDictIn K C = true
  po : PySem.W.plainOver K C = true
  sa : PySem.W.findIn K (.ref C) "__setattr__" = some (some (.builtin "object.__setattr__"))
theorem Cls.get {K : PySem.W.Frag} {C : Addr} (c : Cls K C) (f : Str) : PySem.W.plainGet K C f = true := c.pg
/-- no class of it has the name -/
def NoAttr (K : PySem.W.Frag) (C : Addr) (f : Str) : Prop := PySem.W.findIn K (.ref C) f = some none
theorem NoAttr.taker {K : PySem.W.Frag} {C : Addr} {f : Str} (n : NoAttr K C f) : PySem.W.takerIn K C f = some none := by
  unfold PySem.W.takerIn
  rw [show PySem.W.findIn K (.ref C) f = some none from n]
  rfl
/-- a constant of the class -/
structure Con (K : PySem.W.Frag) (C : Addr) (f : Str) (v : V) (u : Value) : Prop where
  at_ : PySem.W.findIn K (.ref C) f = some (some u)
  rel : RelV v u
  get : PySem.W.specialIn K u "__get__" = some none
  cp : PySem.W.copiedNames.contains f = false
/-- a method: a plain def of the class or of one above it -/
structure Meth (K : PySem.W.Frag) (C : Addr) (m : Str) (f : Addr) : Prop where
  at_ : PySem.W.findIn K (.ref C) m = some (some (.ref f))
  fn : PySem.W.isFn K (.ref f) = true
  kp : PySem.W.keepIn K (.ref f) = true

section
variable {X : Cx} {pins : List (Addr × Obj)} {σ : St} {H : Hp} {s : Shared} {a C dx : Addr} {fs : List (Str × V)} {f : Str} {v : V} {A : Around} {E : Value → Shared → Prop}

theorem getattr_ok {b : Bool} {Q : Value → Shared → Prop} (I : Inv X pins σ H s) (e : H a = some (.ins C dx fs)) (c : Cls X.K C) (n : NoAttr X.K C f) (l : fs.lookup f = some v)
    (h : ∀ u s', Inv X pins σ H s' → RelV v u → Q u s') : wpAny (model X.prog X.w) A (getAttr (.ref a) f b) Q E s := by
  obtain ⟨mA, O, r, _, _, _⟩ := ins_get I.hok e
  obtain ⟨u, hu, ru⟩ := RelO.some_of (v := v) (o := mA f) (by rw [← l]; exact r f)
  exact get_map I.kIn O (c.get f) c.hd n hu (handed_of ru) (h u _ (I.tok _) ru)

theorem getmeth_ok {m : Str} {g : Addr} {pl : Sem Bool} {Q : Value × List Value → Shared → Prop} (I : Inv X pins σ H s) (e : H a = some (.ins C dx fs)) (c : Cls X.K C) (k : Meth X.K C m g) (l : fs.lookup m = none)
    (h : Q (.ref g, [.ref a]) s) : wpAny (model X.prog X.w) A (getMethod (.ref a) m pl) Q E s := by
  obtain ⟨mA, O, r, _, _, _⟩ := ins_get I.hok e
  have hn : mA m = none := RelO.none_of (by rw [← l]; exact r m)
  exact get_meth I.kIn O (c.get m) k.at_ k.fn hn h

theorem setattr_ok {y : V} {u : Value} {Q : Unit → Shared → Prop} (I : Inv X pins σ H s) (e : H a = some (.ins C dx fs)) (c : Cls X.K C) (n : NoAttr X.K C f) (hl : fs.length < 1000) (ry : RelV y u)
    (h : ∀ s', Inv X pins σ (upd H a (.ins C dx (putF f y fs))) s' → Q () s') : wpAny (model X.prog X.w) A (setAttr (.ref a) f u) Q E s := by
  obtain ⟨mA, O, r, wi, _, ho⟩ := ins_get I.hok e
  have hz : (fs.map (·.1)).length ≤ sizeLine := by rw [List.length_map, sizeLine_eq]; omega
  refine set_map I.kIn O c.sa c.po n.taker c.hd wi hz fun h' O' sb => h _ ?_
  have hd : ∃ o, h'.get? dx = some o := let ⟨o, _, _, e', _⟩ := O'.ns; ⟨o, e'⟩
  refine I.write (x := a) (e := dx) (by rw [e]; exact True.intro) (.inr ho) (fun b q hb z => (sb.2 b hb).trans z) hd ?_
  refine ⟨by rw [upd_ne O.ne]; exact ho, ?_, O.ne, O'.obj, _, O'.ns, fun g => ?_, fun g hg => ?_⟩
  · have := length_putF f y fs; omega
  · show RelO ((putF f y fs).lookup g) (if g = f then some u else mA g)
    rw [lookup_putF]
    by_cases q : g = f
    · rw [if_pos q, if_pos q]; exact ry
    · rw [if_neg q, if_neg q]; exact r g
  · by_cases q : g = f
    · rw [q]; exact (keys_putF f y fs).1
    · refine (keys_putF f y fs).2 g (wi g fun z => hg ?_)
      show (if g = f then some u else mA g) = none
      rw [if_neg q]; exact z

/-- a new instance, tracked, without attributes -/
theorem Inv.made (I : Inv X pins σ H s) : Inv X pins σ (upd (upd H s.heap.objs.size (.own (s.heap.objs.size + 1))) (s.heap.objs.size + 1) (.ins C s.heap.objs.size []))
    { s with heap := (s.heap.push PySem.W.emptyDict).push (PySem.W.instObj C s.heap.objs.size) } := by
  have e1 : (s.heap.push PySem.W.emptyDict).get? s.heap.objs.size = some PySem.W.emptyDict := Heap.get?_push_size s.heap rfl
  have e2 : ((s.heap.push PySem.W.emptyDict).push (PySem.W.instObj C s.heap.objs.size)).get? (s.heap.objs.size + 1) = some (PySem.W.instObj C s.heap.objs.size) := by
    have := Heap.get?_push_size (s.heap.push PySem.W.emptyDict) (o := PySem.W.instObj C s.heap.objs.size) rfl
    rwa [Heap.size_push] at this
  have e3 : (s.heap.push PySem.W.emptyDict).Ns s.heap.objs.size (fun _ => none) := ⟨PySem.W.emptyDict, #[], _, e1, rfl, (fun e he => absurd he (by simp)), fun _ => rfl⟩
  have I1 := I.laid (a := s.heap.objs.size) (o := .own (s.heap.objs.size + 1)) (h' := s.heap.push PySem.W.emptyDict) (t' := s.toks) (fun b u q => Heap.get?_push_of_some _ q) (Nat.le_refl _) ⟨_, e1⟩
  refine I1.laid (a := s.heap.objs.size + 1) (o := .ins C s.heap.objs.size []) (t' := s.toks) (fun b u q => Heap.get?_push_of_some _ q) (Nat.le_of_eq (Heap.size_push _ _)) ?_
  have ne : s.heap.objs.size ≠ s.heap.objs.size + 1 := Nat.ne_of_lt (Nat.lt_succ_self _)
  refine ⟨by rw [upd_ne ne, upd_same], Nat.zero_le _, ne, e2, fun _ => none, (Heap.Ns1.of_empty e3).at fun o q => Heap.get?_push_of_some _ q, fun _ => True.intro, fun y hy => absurd rfl hy⟩

/-- e.f where nothing but the object is asked: through attributeBase (super) and the last hold -/
theorem attr_of {prog : Program} {w : World} {env : Env} {e : Expr} {f : Str} {pos : Pos} {s : Shared} {Q : Value → Shared → Prop} (hb : attributeBase e f env (eval e env) = eval e env)
    (h : wpAny (model prog w) A (eval e env) (fun o s₁ => wpAny (model prog w) A (getAttr o f true) Q E s₁) E s) : wpAny (model prog w) A (eval (.Attribute e f pos) env) Q E s :=
  Attribute_any_ h (by rw [arm_eval_Attribute, hb])
end

/-! ### readings and rules -/
/-- e.f, an attribute of the instance -/
def tFld (K : PySem.W.Frag) (ta : TE) (f : Str) : TE := fun σ H Q => ta σ H fun x H1 => ∃ a C dx fs v, x = .ref a ∧ H1 a = some (.ins C dx fs) ∧ Cls K C ∧ NoAttr K C f ∧ fs.lookup f = some v ∧ Q v H1
/-- e.f, a constant of the class -/
def tCon (K : PySem.W.Frag) (ta : TE) (f : Str) : TE := fun σ H Q => ta σ H fun x H1 => ∃ a C dx fs v u, x = .ref a ∧ H1 a = some (.ins C dx fs) ∧ Cls K C ∧ Con K C f v u ∧ fs.lookup f = none ∧ Q v H1
/-- e.f = value -/
def sFld (K : PySem.W.Frag) (ta tv : TE) (f : Str) : TS := fun D σ H => tv σ H fun y H1 => ta σ H1 fun x H2 => ∃ a C dx fs, x = .ref a ∧ H2 a = some (.ins C dx fs) ∧ Cls K C ∧ NoAttr K C f ∧ fs.length < 1000 ∧
  D.nx σ (upd H2 a (.ins C dx (putF f y fs)))
/-- an augmented operator on two values -/
def InOp (X : Cx) (op : Operator) (rd : V → V → Hp → VK → Prop) : Prop :=
  ∀ (pins : List (Addr × Obj)) (s : Shared) (σ : St) (H : Hp) (x y : V) (u v : Value) (Q : VK), Inv X pins σ H s → RelV x u → RelV y v → rd x y H Q → wpAny (model X.prog X.w) X.A (inplaceOp op u v) (EP X pins σ Q) X.xe s
/-- e.f op= value -/
def sFldAug (K : PySem.W.Frag) (ta tv : TE) (rd : V → V → Hp → VK → Prop) (f : Str) : TS := fun D σ H => ta σ H fun x H1 => ∃ a C dx fs v, x = .ref a ∧ H1 a = some (.ins C dx fs) ∧ Cls K C ∧ NoAttr K C f ∧ fs.lookup f = some v ∧
  tv σ H1 fun y H2 => rd v y H2 fun z H3 => ∃ dx' fs', H3 a = some (.ins C dx' fs') ∧ fs'.length < 1000 ∧ D.nx σ (upd H3 a (.ins C dx' (putF f z fs')))

section
variable {X : Cx} {o e value : Expr} {f : Str} {pos pos' tpos : Pos} {ta tv : TE}
theorem pe_fld (he : PE X e ta) (hb : attributeBase e f X.env (eval e X.env) = eval e X.env) : PE X (.Attribute e f pos) (tFld X.K ta f) := by
  intro pins s σ H Q I h
  refine attr_of hb (thn (he pins s σ H _ I h) fun u s1 ⟨x, H1, I1, rx, a, C, dx, fs, v, ex, ea, c, n, l, q⟩ => ?_)
  subst ex
  obtain rfl : u = Value.ref a := rx
  exact getattr_ok I1 ea c n l fun u' s2 I2 ru => ⟨v, H1, I2, ru, q⟩
theorem ps_fld (ha : PE X o ta) (hv : PE X value tv) (hs : swapsWith value (some (.Attribute o f pos')) pos.line X.env = pure false) : PS X (.Assign [.Attribute o f pos'] value pos) (sFld X.K ta tv f) := by
  intro pins s σ H D I h
  refine plainObj_wpAny_Assign_Attribute (thn (hv pins s σ H _ I h) fun u s1 ⟨y, H1, I1, ry, q⟩ => thn (ha pins s1 σ H1 _ I1 q) fun ov s2 ⟨x, H2, I2, rx, a, C, dx, fs, ex, ea, c, n, l, q2⟩ => ?_) hs
  subst ex
  obtain rfl : ov = Value.ref a := rx
  exact setattr_ok I2 ea c n l ry fun s3 I3 => ⟨σ, _, I3, q2⟩
def rAdd : V → V → Hp → VK → Prop := fun x y H Q => ∃ i j, x = .int i ∧ y = .int j ∧ Q (.int (i + j)) H
def rSub : V → V → Hp → VK → Prop := fun x y H Q => ∃ i j, x = .int i ∧ y = .int j ∧ Q (.int (i - j)) H
end

/-! ### isinstance -/
section
variable {X : Cx} {pins : List (Addr × Obj)} {σ : St} {H : Hp} {s : Shared} {A : Around} {E : Value → Shared → Prop} {Q : Value → Shared → Prop} {c : Value} {b : Bool}
/-- the type of a value, as the fragment's deciders take it; for an instance its class -/
inductive TyOf (K : PySem.W.Frag) (H : Hp) : V → Value → Prop where
  | non : TyOf K H .non (.type "NoneType")
  | bl (x : Bool) : TyOf K H (.bl x) (.type "bool")
  | int (i : Int) : TyOf K H (.int i) (.type "int")
  | str (x : Str) : TyOf K H (.str x) (.type "str")
  | flt (x : UInt64) : TyOf K H (.flt x) (.type "float")
  | lst {a : Addr} {xs : List V} (e : H a = some (.lst xs)) : TyOf K H (.ref a) (.type "list")
  | frz {a : Addr} {o : Obj} {xs : List V} (e : H a = some (.frz o (.lst xs))) : TyOf K H (.ref a) (.type "list")
  | tup {a : Addr} {xs : List V} (e : H a = some (.tup xs)) : TyOf K H (.ref a) (.type "tuple")
  | dK {a : Addr} {kvs : List (Key × V)} (e : H a = some (.dK kvs)) : TyOf K H (.ref a) (.type "dict")
  | dT {a : Addr} {kvs : List (List Key × V)} (e : H a = some (.dT kvs)) : TyOf K H (.ref a) (.type "dict")
  | ins {a C dx : Addr} {fs : List (Str × V)} (e : H a = some (.ins C dx fs)) (cl : Cls K C) (ha : PySem.W.findIn K (.ref C) "__class__" = some (some (.builtin "object.__class__")))
      (hn : PySem.W.specialIn K (.builtin "object.__class__") "__get__" = some (some (.builtin "getset_descriptor.__get__"))) (htk : PySem.W.takesIn K (.builtin "object.__class__") = some true)
      (hm : PySem.W.mroIn K C (.type "object") = some true) : TyOf K H (.ref a) (.ref C)
end
end L2

namespace L2
open PySem PySem.Spec PyProof.Rows

/-! ### room -/
structure Room (k : Nat) (A : Around) : Prop where
  hd : A.handled = none
  dp : A.depth + 3 * k + 5 < recursionLimit
  un : A.units + 16 * k + 200 < cLine
theorem Room.mono {j k : Nat} {A : Around} (r : Room k A) (h : j ≤ k) : Room j A := ⟨r.hd, by have := r.dp; omega, by have := r.un; omega⟩
theorem Room.deeper {k : Nat} {A : Around} (r : Room (k + 1) A) (env : Env) : Room k (A.deeper env) :=
  ⟨r.hd, by have := r.dp; show A.depth + 1 + 3 * k + 5 < _; omega, by have := r.un; show A.units + 3 + 16 * k + 200 < _; omega⟩
theorem make_depth {A : Around} {C : Addr} {us : List Value} {kw : List (Str × Value)} : (A.under (.builtin "type.__call__" ⟨.ref C :: us, kw⟩)).depth = A.depth + 1 := by
  first | rfl | simp [Around.under, Code.weight, Code.isCreation, Code.isGuard, Code.isCaller, Code.frames, Code.isFrame, guardIds]
theorem make_units {A : Around} {C : Addr} {us : List Value} {kw : List (Str × Value)} : (A.under (.builtin "type.__call__" ⟨.ref C :: us, kw⟩)).units = A.units + 1 := by
  first | rfl | simp [Around.under, Code.cUnits, Code.frames, Code.isFrame]
theorem Room.make {k : Nat} {A : Around} (r : Room (k + 1) A) (C : Addr) (us : List Value) (kw : List (Str × Value)) : Room k (A.under (.builtin "type.__call__" ⟨.ref C :: us, kw⟩)) :=
  ⟨r.hd, by have := r.dp; rw [make_depth]; omega, by have := r.un; rw [make_units]; omega⟩
theorem Room.depth {k : Nat} {A : Around} (r : Room k A) : A.depth < recursionLimit := by have := r.dp; omega
theorem Room.units {k : Nat} {A : Around} (r : Room k A) : A.units + 64 < cLine := by have := r.un; omega
/-! ### argument lists and displays -/
def tNil : TA := fun _ H Q => Q [] H
def tCons (ta : TE) (tr : TA) : TA := fun σ H Q => ta σ H fun x H1 => tr σ H1 fun xs H2 => Q (x :: xs) H2
section
variable {X : Cx} {e : Expr} {es : List Expr} {te : TE} {t : TA} {pos : Pos}
theorem pa_nil : PA X [] tNil := fun _ _ _ _ H Q I h => Calls.spliced_nil ⟨[], H, I, .nil, h⟩
theorem pa_cons (ha : PE X e te) (hr : PA X es t) (hs : starEach (e :: es) X.env = (false, eval e X.env) :: starEach es X.env := by rfl) : PA X (e :: es) (tCons te t) := by
  intro pos pins s σ H Q I h
  rw [hs]
  show wpAny _ _ (spliced ((false, eval e X.env) :: backTo pos (starEach es X.env))) _ _ s
  refine Calls.spliced_cons (thn (ha pins s σ H _ I h) fun u s1 ⟨x, H1, I1, r1, q1⟩ => ?_)
  exact thn (hr pos pins s1 σ H1 _ I1 q1) fun us s2 ⟨xs, H2, I2, r2, q2⟩ => ⟨x :: xs, H2, I2, .cons r1 r2, q2⟩

/-- a tuple, a list of written items -/
def tTup (t : TA) : TE := fun σ H Q => t σ H fun xs H1 => xs.length ≤ sizeLine ∧ ∀ p, H1 p = none → Q (.ref p) (upd H1 p (.tup xs))
def tLst (t : TA) : TE := fun σ H Q => t σ H fun xs H1 => xs.length ≤ sizeLine ∧ ∀ p, H1 p = none → Q (.ref p) (upd H1 p (.lst xs))
theorem pe_tup {x1} (h : PA X es t) : PE X (.Tuple es x1 pos) (tTup t) := by
  intro pins s σ H Q I hq
  refine wpAny_Tuple_spliced (thn (h pos pins s σ H _ I hq) fun us s1 ⟨xs, H1, I1, r, z, q⟩ => ⟨by rw [← r.length]; exact z, ?_⟩)
  have hf : H1 s1.heap.objs.size = none := I1.hok.fresh (Nat.le_refl _)
  refine ⟨.ref s1.heap.objs.size, upd H1 s1.heap.objs.size (.tup xs), I1.laid (t' := s1.toks) (fun b u e => Heap.get?_push_of_some _ e) (Nat.le_refl _) ?_, rfl, q _ hf⟩
  exact ⟨z, us, r, ⟨_, Heap.get?_push_size _ rfl, rfl, _, rfl⟩⟩
theorem pe_lst (h : PA X es t) : PE X (.List es pos) (tLst t) := by
  intro pins s σ H Q I hq
  refine wpAny_List_spliced (thn (h pos pins s σ H _ I hq) fun us s1 ⟨xs, H1, I1, r, z, q⟩ => ⟨by rw [← r.length]; exact z, ?_⟩)
  have hf : H1 s1.heap.objs.size = none := I1.hok.fresh (Nat.le_refl _)
  refine ⟨.ref s1.heap.objs.size, upd H1 s1.heap.objs.size (.lst xs), I1.laid (t' := s1.toks) (fun b u e => Heap.get?_push_of_some _ e) (Nat.le_refl _) ?_, rfl, q _ hf⟩
  exact ⟨z, us, 0, r, Heap.get?_push_size _ rfl⟩
end

/-! ### what a def promises -/
/-- a def's promise: the bound arguments in the parameters' order, the heap, the wanted end, the wanted exception -/
abbrev Sp := List V → Hp → VK → XK → Prop
/-- how an exception lies behind a call (file 08 gives it): the callers' frames, abstract heap and state ahead of the call, the wish, the exception, the state -/
abbrev CXT := List Env → Hp → Shared → XK → Value → Shared → Prop

/-- the state at a call -/
structure Env0 (P : Program) (w : World) (K : PySem.W.Frag) (mg : Str → Option Value) (base : Heap) (A : Around) (outer : List Env) (s : Shared) (H : Hp) : Prop where
  frames : A.frames = some outer
  mod : Mod K mg base
  bs : ∀ b o, base.get? b = some o → s.heap.get? b = some o ∧ H b = none
  bsz : base.objs.size ≤ s.heap.objs.size
  funs : s.heap.FunFrames base outer
  frf : ∀ b ∈ frs outer, H b = none
  hok : HOk P w H s.heap
  bare : AllBare s.gens
/-- a call's end -/
def CE (outer : List Env) (P : Program) (w : World) (H : Hp) (s : Shared) (Q : VK) (u : Value) (s' : Shared) : Prop :=
  ∃ v H', s'.os = s.os ∧ AllBare s'.gens ∧ Un (frs outer) [] H H' s.heap s'.heap ∧ HOk P w H' s'.heap ∧ RelV v u ∧ Q v H'
def CR (CX : CXT) (outer : List Env) (P : Program) (w : World) (H : Hp) (s : Shared) (Q : VK) (E : XK) (r : Result) (s' : Shared) : Prop :=
  match r with
  | .ok (.ret u) => CE outer P w H s Q u s'
  | .ok _ => False
  | .error e => CX outer H s E e s'
structure FnOk (P : Program) (w : World) (K : PySem.W.Frag) (mg : Str → Option Value) (base : Heap) (CX : CXT) (k : Nat) (f : Addr) (fd : FuncData) (ps : List Str) (sp : Sp) : Prop where
  len : ∀ vs H Q E, sp vs H Q E → vs.length = ps.length
  run : ∀ (A : Around) (outer : List Env) (s : Shared) (H : Hp) (args : Args) (us : List Value) (vs : List V) (Q : VK) (E : XK), Room k A → Env0 P w K mg base A outer s H → BindsTo s fd args (ps.zip us) → Vals vs us → sp vs H Q E →
    codeAny (model P w) A (.call (.ref f) args) (CR CX outer P w H s Q E) s
theorem Env0.make {P : Program} {w : World} {K : PySem.W.Frag} {mg : Str → Option Value} {base : Heap} {A : Around} {outer : List Env} {s : Shared} {H : Hp} (e : Env0 P w K mg base A outer s H) (C : Addr) (us : List Value) (kw : List (Str × Value)) :
    Env0 P w K mg base (A.under (.builtin "type.__call__" ⟨.ref C :: us, kw⟩)) outer s H := ⟨by first | exact e.frames | (simpa [Around.under, Code.envs, Code.isFrame, pushEnvs] using e.frames), e.mod, e.bs, e.bsz, e.funs, e.frf, e.hok, e.bare⟩
section
variable {X : Cx} {pins : List (Addr × Obj)} {σ : St} {H : Hp} {s s' : Shared}
/-- from a body: what a callee wants -/
theorem Inv.env0 (I : Inv X pins σ H s) : Env0 X.prog X.w X.K X.mg X.base X.A X.stack s H :=
  ⟨I.ok.frames, I.ok.mod, I.bs, Nat.le_trans I.ok.bsz I.sz, I.stack, I.stkFree, I.hok, I.bare⟩
/-- behind a call -/
theorem Inv.after {Q : VK} {u : Value} (I : Inv X pins σ H s) (h : CE X.stack X.prog X.w H s Q u s') : EP X pins σ Q u s' := by
  obtain ⟨v, H', os, bare, un, hok, r, q⟩ := h
  obtain ⟨hh, g, d, t, os'⟩ := s'
  obtain rfl : os' = s.os := os
  exact ⟨v, H', I.call (h' := hh) (g' := g) (d' := d) (t' := t) (ch := []) un hok bare (fun b z => absurd z (by simp)), r, q⟩
end

/-! ### calls -/
/-- f(..): the written arguments, then the defaults dvs; E: what is wanted of an exception -/
def tCall (sp : Sp) (dvs : List V) (E : XK) (t : TA) : TE := fun σ H Q => t σ H fun vs H1 => sp (vs ++ dvs) H1 Q E
/-- o.m(..) of an instance of the class at C -/
def tMeth (C : Addr) (m : Str) (sp : Sp) (dvs : List V) (E : XK) (ta : TE) (t : TA) : TE := fun σ H Q => ta σ H fun x H1 => ∃ a dx fs, x = .ref a ∧ H1 a = some (.ins C dx fs) ∧ fs.lookup m = none ∧
  t σ H1 fun vs H2 => sp (x :: (vs ++ dvs)) H2 Q E
/-- C(..): a new instance and its dict, then __init__ -/
def tMake (C : Addr) (sp : Sp) (dvs : List V) (E : XK) (t : TA) : TE := fun σ H Q => t σ H fun vs H1 => ∀ x dx, H1 x = none → H1 dx = none → dx ≠ x →
  sp (.ref x :: (vs ++ dvs)) (upd (upd H1 dx (.own x)) x (.ins C dx [])) (fun v H2 => v = .non ∧ Q (.ref x) H2) E

/-- how the parameters are bound: us the positional arguments, kw the keywords' values by name, ds the defaults that fill up -/
def Binds (K : PySem.W.Frag) (fd : FuncData) (ps : List Str) (ds : List Value) : Prop :=
  ∀ (s : Shared) (us : List Value), K.In s.heap → (us ++ ds).length = ps.length → BindsTo s fd ⟨us, []⟩ (ps.zip (us ++ ds))
/-- every parameter is given -/
theorem Binds.all {K : PySem.W.Frag} {fd : FuncData} {ps : List Str} (h : ∀ us : List Value, us.length = ps.length → bindArgs fd ⟨us, []⟩ = pure (ps.zip us)) : Binds K fd ps [] := fun s us _ hl => by
  rw [List.append_nil] at hl ⊢
  exact .of_eq (h us hl)

/-- an exception of a callee reaches what this body wants of exceptions -/
def Passes (CX : CXT) (X : Cx) (E : XK) : Prop := ∀ (pins : List (Addr × Obj)) (σ : St) (H : Hp) (s : Shared) (e : Value) (s' : Shared), Inv X pins σ H s → CX X.stack H s E e s' → X.xe e s'

section
variable {X : Cx} {CX : CXT} {k : Nat} {f C : Addr} {fd : FuncData} {ps : List Str} {sp : Sp} {dvs : List V} {ds : List Value} {E : XK} {x m : Str} {p pos apos : Pos} {e o : Expr} {es : List Expr} {ta : TE} {t : TA}

/-- the callee runs -/
theorem run_fn {pins : List (Addr × Obj)} {σ : St} {H : Hp} {s : Shared} {Q : VK} {us : List Value} {vs : List V} (F : FnOk X.prog X.w X.K X.mg X.base CX k f fd ps sp) (hr : Room k X.A) (hb : Binds X.K fd ps ds) (hd : Vals dvs ds) (hx : Passes CX X E)
    (I : Inv X pins σ H s) (r : Vals vs us) (h : sp (vs ++ dvs) H Q E) : wpAny (model X.prog X.w) X.A (call (.ref f) us) (EP X pins σ Q) X.xe s := by
  have r2 : Vals (vs ++ dvs) (us ++ ds) := r.append hd
  have hl : (us ++ ds).length = ps.length := by rw [← r2.length]; exact F.len _ _ _ _ h
  refine wpAny_call (codeAny_mono (F.run X.A X.stack s H ⟨us, []⟩ (us ++ ds) (vs ++ dvs) Q E hr I.env0 (hb s us I.kIn hl) r2 h) fun r s' hq => ?_)
  cases r with
  | error e => exact hx pins σ H s e s' I hq
  | ok fl =>
    cases fl with
    | ret u => exact I.after hq
    | next => exact False.elim hq
    | brk => exact False.elim hq
    | cont => exact False.elim hq

theorem pe_call (F : FnOk X.prog X.w X.K X.mg X.base CX k f fd ps sp) (hr : Room k X.A) (hg : Gl X x) (hm : X.mg x = some (.ref f)) (hk : PySem.W.keepIn X.K (.ref f) = true) (hb : Binds X.K fd ps ds) (hd : Vals dvs ds) (hx : Passes CX X E)
    (ha : PA X (e :: es) t) (hdb : (x == ("__debug__" : Str)) = false := by decide) (he : starEach (e :: es) X.env = (false, eval e X.env) :: starEach es X.env := by rfl) (hpl : (backTo pos (starEach es X.env)).any (·.1) = false := by rfl) :
    PE X (.Call (.Name x p) (e :: es) [] pos) (tCall sp dvs E t) := by
  intro pins s σ H Q I h
  refine wpAny_Call_Name_kw (ld_glob I hg hm ?_ hdb)
  refine PySem.W.callWith_K (h₀ := X.base) I.ok.mod.kin hk (thn (ha pos pins s σ H _ I h) fun us s1 ⟨vs, H1, I1, r, q⟩ => ⟨I1.kIn, ?_⟩) he hpl
  exact run_fn F hr hb hd hx I1 r q
/-- o.m(e, ..) -/
theorem pe_meth {pl : Sem Bool} (he : PE X o ta) (c : Cls X.K C) (hm : Meth X.K C m f) (F : FnOk X.prog X.w X.K X.mg X.base CX k f fd ps sp) (hr : Room k X.A) (hb : Binds X.K fd ps ds) (hd : Vals dvs ds) (hx : Passes CX X E) (ha : PA X (e :: es) t)
    (hst : starEach (e :: es) X.env = (false, eval e X.env) :: starEach es X.env := by rfl) (hpl : (backTo pos (starEach es X.env)).any (·.1) = false := by rfl)
    (ht : eval (.Call (.Attribute o m apos) (e :: es) [] pos) X.env = (do
      let ov ← eval o X.env
      standAt apos.atName
      let (f, first) ← holding [ov] (getMethod ov m pl)
      callWith pos f first (backTo pos (starEach (e :: es) X.env)) (backToKw pos (keywordEach [] X.env))) := by rfl) :
    PE X (.Call (.Attribute o m apos) (e :: es) [] pos) (tMeth C m sp dvs E ta t) := by
  intro pins s σ H Q I h
  refine PySem.W.methodCall_KW (pl := pl) (thn (he pins s σ H _ I h) fun u s1 ⟨x, H1, I1, rx, a, dx, fs, ex, ea, l, q⟩ => ?_) ht
  subst ex
  obtain rfl : u = Value.ref a := rx
  refine getmeth_ok I1 ea c hm l ?_
  refine PySem.W.callWith_K (first := [.ref a]) (h₀ := X.base) I.ok.mod.kin hm.kp (thn (ha pos pins s1 σ H1 _ I1 q) fun us s2 ⟨vs, H2, I2, r, q2⟩ => ⟨I2.kIn, ?_⟩) hst hpl
  exact run_fn (us := .ref a :: us) (vs := .ref a :: vs) F hr hb hd hx I2 (.cons rfl r) q2
/-- o.m() -/
theorem pe_meth0 {pl : Sem Bool} (he : PE X o ta) (c : Cls X.K C) (hm : Meth X.K C m f) (F : FnOk X.prog X.w X.K X.mg X.base CX k f fd ps sp) (hr : Room k X.A) (hb : Binds X.K fd ps ds) (hd : Vals dvs ds) (hx : Passes CX X E)
    (ht : eval (.Call (.Attribute o m apos) [] [] pos) X.env = (do
      let ov ← eval o X.env
      standAt apos.atName
      let (f, first) ← holding [ov] (getMethod ov m pl)
      callWith pos f first (backTo pos (starEach [] X.env)) (backToKw pos (keywordEach [] X.env))) := by rfl) :
    PE X (.Call (.Attribute o m apos) [] [] pos) (tMeth C m sp dvs E ta tNil) := by
  intro pins s σ H Q I h
  refine PySem.W.methodCall_KW (pl := pl) (thn (he pins s σ H _ I h) fun u s1 ⟨x, H1, I1, rx, a, dx, fs, ex, ea, l, q⟩ => ?_) ht
  subst ex
  obtain rfl : u = Value.ref a := rx
  refine getmeth_ok I1 ea c hm l ?_
  exact PySem.W.callWith_K0 (first := [.ref a]) I1.kIn hm.kp (run_fn (us := [.ref a]) (vs := [.ref a]) F hr hb hd hx I1 (.cons rfl .nil) q)

/-- what a class must have to be made -/
structure Mk (K : PySem.W.Frag) (C f : Addr) : Prop where
  makes : PySem.W.makesIn K C = true
  init : PySem.W.findIn K (.ref C) "__init__" = some (some (.ref f))
  fn : PySem.W.isFn K (.ref f) = true
  kp : PySem.W.keepIn K (.ref C) = true

theorem run_make {pins : List (Addr × Obj)} {σ : St} {H : Hp} {s : Shared} {Q : VK} {us : List Value} {vs : List V} (M : Mk X.K C f) (F : FnOk X.prog X.w X.K X.mg X.base CX k f fd ps sp) (hr : Room (k + 1) X.A) (hb : Binds X.K fd ps ds) (hd : Vals dvs ds)
    (hx : Passes CX X E) (I : Inv X pins σ H s) (r : Vals vs us)
    (h : ∀ x dx, H x = none → H dx = none → dx ≠ x → sp (.ref x :: (vs ++ dvs)) (upd (upd H dx (.own x)) x (.ins C dx [])) (fun v H2 => v = .non ∧ Q (.ref x) H2) E) :
    wpAny (model X.prog X.w) X.A (call (.ref C) us) (EP X pins σ Q) X.xe s := by
  have hq := h (s.heap.objs.size + 1) s.heap.objs.size (I.hok.fresh (Nat.le_succ _)) (I.hok.fresh (Nat.le_refl _)) (Nat.ne_of_lt (Nat.lt_succ_self _))
  have I2 := Inv.made (C := C) I
  have r2 : Vals (V.ref (s.heap.objs.size + 1) :: (vs ++ dvs)) (Value.ref (s.heap.objs.size + 1) :: (us ++ ds)) := .cons rfl (r.append hd)
  have hl : (Value.ref (s.heap.objs.size + 1) :: us ++ ds).length = ps.length := by
    have e := r2.length
    rw [F.len _ _ _ _ hq] at e
    exact e.symm
  refine wpAny_call (make_map (f := f) I.kIn M.makes M.init (beq_iff_eq.mp M.fn) (codeAny_mono (F.run _ X.stack _ _ ⟨Value.ref (s.heap.objs.size + 1) :: us, []⟩ (Value.ref (s.heap.objs.size + 1) :: (us ++ ds)) _ _ E (hr.make C us [])
    (I2.env0.make C us []) (hb _ (Value.ref (s.heap.objs.size + 1) :: us) I2.kIn hl) r2 hq) fun r s' hq' => ?_))
  cases r with
  | error e => exact hx pins σ _ _ e s' I2 hq'
  | ok fl =>
    cases fl with
    | ret u =>
      obtain ⟨v, H', I3, rv, ev, q3⟩ := I2.after hq'
      subst ev
      exact ⟨rv, ⟨V.ref (s.heap.objs.size + 1), H', I3, rfl, q3⟩⟩
    | next => exact False.elim hq'
    | brk => exact False.elim hq'
    | cont => exact False.elim hq'
theorem pe_make (M : Mk X.K C f) (F : FnOk X.prog X.w X.K X.mg X.base CX k f fd ps sp) (hr : Room (k + 1) X.A) (hg : Gl X x) (hm : X.mg x = some (.ref C)) (hb : Binds X.K fd ps ds) (hd : Vals dvs ds) (hx : Passes CX X E)
    (ha : PA X (e :: es) t) (hdb : (x == ("__debug__" : Str)) = false := by decide) (he : starEach (e :: es) X.env = (false, eval e X.env) :: starEach es X.env := by rfl) (hpl : (backTo pos (starEach es X.env)).any (·.1) = false := by rfl) :
    PE X (.Call (.Name x p) (e :: es) [] pos) (tMake C sp dvs E t) := by
  intro pins s σ H Q I h
  refine wpAny_Call_Name_kw (ld_glob I hg hm ?_ hdb)
  refine PySem.W.callWith_K (h₀ := X.base) I.ok.mod.kin M.kp (thn (ha pos pins s σ H _ I h) fun us s1 ⟨vs, H1, I1, r, q⟩ => ⟨I1.kIn, ?_⟩) he hpl
  exact run_make M F hr hb hd hx I1 r q
end

/-! ### keywords -/
/-- the values of the keywords, from the left -/
def PK (X : Cx) (kws : List Keyword) (t : TA) : Prop :=
  ∀ (pos : Pos) (pins : List (Addr × Obj)) (s : Shared) (σ : St) (H : Hp) (Q : List V → Hp → Prop), Inv X pins σ H s → t σ H Q → wpAny (model X.prog X.w) X.A (evalAll ((backToKw pos (keywordEach kws X.env)).map (·.2))) (AP X pins σ Q) X.xe s
section
variable {X : Cx} {CX : CXT} {k : Nat} {f C : Addr} {fd : FuncData} {ps ks : List Str} {sp : Sp} {E : XK} {x m : Str} {p pos apos kpos : Pos} {e o : Expr} {es : List Expr} {kws : List Keyword} {te ta : TE} {t tk : TA} {nm : Option Str}
/-- how a call with keywords binds: g puts the positional values us and the keywords' values ws (names ks) in the parameters' order, defaults among them -/
structure KBinds (K : PySem.W.Frag) (fd : FuncData) (ps ks : List Str) (g : List Value → List Value → List Value) (gV : List V → List V → List V) : Prop where
  to : ∀ (s : Shared) (us ws : List Value), K.In s.heap → (g us ws).length = ps.length → BindsTo s fd ⟨us, ks.zip ws⟩ (ps.zip (g us ws))
  rel : ∀ {vs : List V} {us : List Value} {zs : List V} {ws : List Value}, Vals vs us → Vals zs ws → Vals (gV vs zs) (g us ws)
def tCallK (sp : Sp) (gV : List V → List V → List V) (E : XK) (t tk : TA) : TE := fun σ H Q => t σ H fun vs H1 => tk σ H1 fun zs H2 => sp (gV vs zs) H2 Q E
variable {g : List Value → List Value → List Value} {gV : List V → List V → List V}
end

/-! ### a def's body keeps its promise -/
/-- names: the parameters first -/
structure FnScope (N P : List Str) (sc : Scope) : Prop where
  kind : sc.kind = .function
  co : sc.isCoroutine = false
  gen : sc.isGenerator = false
  nd : N.Nodup
  pre : N.take P.length = P
  par : ∀ x ∈ P, sc.names.lookup x = some .local ∨ sc.names.lookup x = some .cell
  nofree : ∀ y ∈ sc.names, y.2 ≠ .free

theorem bindL_out {kindOf : Str → Option NameKind} {x : Str} : ∀ {binds : List (Str × Value)} {m : Str → Option Value}, (∀ v, (x, v) ∉ binds) → bindL kindOf binds m x = m x
  | [], _, _ => rfl
  | (n, v) :: r, m, h => by
    unfold bindL
    rw [bindL_out fun w hw => h w (List.mem_cons_of_mem _ hw)]
    split
    · have : x ≠ n := by rintro rfl; exact h v List.mem_cons_self
      simp [this]
    · rfl
theorem bindC_out {kindOf : Str → Option NameKind} {x : Str} : ∀ {binds : List (Str × Value)} {m : Str → Option Value}, (∀ v, (x, v) ∉ binds) → bindC kindOf binds m x = m x
  | [], _, _ => rfl
  | (n, v) :: r, m, h => by
    unfold bindC
    rw [bindC_out fun w hw => h w (List.mem_cons_of_mem _ hw)]
    split
    · rfl
    · have : x ≠ n := by rintro rfl; exact h v List.mem_cons_self
      simp [this]
theorem bindL_get {kindOf : Str → Option NameKind} {x : Str} {v : Value} : ∀ {P : List Str} {vs : List Value} {i : Nat} {m : Str → Option Value}, P.Nodup → P[i]? = some x → vs[i]? = some v → kindOf x = some .local →
    bindL kindOf (P.zip vs) m x = some v
  | [], _, _, _, _, h, _, _ => by simp at h
  | _ :: _, [], _, _, _, _, h, _ => by simp at h
  | p :: P, w :: vs, 0, m, nd, h1, h2, hk => by
    simp at h1 h2; subst h1; subst h2
    show bindL kindOf ((p, w) :: P.zip vs) m p = _
    unfold bindL
    rw [bindL_out fun v hv => (List.nodup_cons.mp nd).1 (List.of_mem_zip hv).1, if_pos hk]
    simp
  | p :: P, w :: vs, i + 1, m, nd, h1, h2, hk => by
    show bindL kindOf ((p, w) :: P.zip vs) m x = _
    unfold bindL
    exact bindL_get (i := i) (List.nodup_cons.mp nd).2 (by simpa using h1) (by simpa using h2) hk
theorem bindC_get {kindOf : Str → Option NameKind} {x : Str} {v : Value} : ∀ {P : List Str} {vs : List Value} {i : Nat} {m : Str → Option Value}, P.Nodup → P[i]? = some x → vs[i]? = some v → kindOf x ≠ some .local →
    bindC kindOf (P.zip vs) m x = some v
  | [], _, _, _, _, h, _, _ => by simp at h
  | _ :: _, [], _, _, _, _, h, _ => by simp at h
  | p :: P, w :: vs, 0, m, nd, h1, h2, hk => by
    simp at h1 h2; subst h1; subst h2
    show bindC kindOf ((p, w) :: P.zip vs) m p = _
    unfold bindC
    rw [bindC_out fun v hv => (List.nodup_cons.mp nd).1 (List.of_mem_zip hv).1, if_neg hk]
    simp
  | p :: P, w :: vs, i + 1, m, nd, h1, h2, hk => by
    show bindC kindOf ((p, w) :: P.zip vs) m x = _
    unfold bindC
    exact bindC_get (i := i) (List.nodup_cons.mp nd).2 (by simpa using h1) (by simpa using h2) hk

/-- the names' values at the entry -/
def start (N : List Str) (vs : List V) : St := vs.map some ++ List.replicate (N.length - vs.length) none

/-- the context of a def's body, at its entry; an exception leaves the frame, then lies as CX says -/
def cxOf (CX : CXT) (P : Program) (w : World) (K : PySem.W.Frag) (mg : Str → Option Value) (base : Heap) (N : List Str) (qual : Str) (scope : Scope) (f : Addr) (cd : Value) (A : Around) (outer : List Env) (s : Shared) (H : Hp) (E : XK) : Cx where
  prog := P
  w := w
  K := K
  mg := mg
  base := base
  A := A.deeper (envOfC qual scope s.heap.objs.size f cd)
  N := N
  s₀ := s
  H₀ := H
  env := envOfC qual scope s.heap.objs.size f cd
  outer := outer
  stack := envOfC qual scope s.heap.objs.size f cd :: outer
  ex := []
  calm := true
  fn := fun _ => true
  pn := []
  xe := fun e s' => wpAny (model P w) (A.deeper (envOfC qual scope s.heap.objs.size f cd)) (leaving (envOfC qual scope s.heap.objs.size f cd) e) (fun _ s'' => CX outer H s E e s'') (fun e' s'' => CX outer H s E e' s'') s'

theorem cell_has {sc : Scope} {n : Nat} {x : Str} (h : sc.names.lookup x = some .cell) : ∃ c, (cellsFrom n sc.names []).lookup x = some c := by
  have q := PySem.W.cellsFrom_some sc.names n [] (.inl h)
  exact Option.isSome_iff_exists.mp q

theorem inv_start {CX : CXT} {P : Program} {w : World} {K : PySem.W.Frag} {mg : Str → Option Value} {base : Heap} {N ps : List Str} {qual : Str} {scope : Scope} {f : Addr} {cd : Value} {A : Around} {outer : List Env} {s s1 : Shared} {H : Hp} {E : XK} {us : List Value} {vs : List V}
    (S : FnScope N ps scope) (hd : A.handled = none) (e0 : Env0 P w K mg base A outer s H) (hl : vs.length = ps.length) (r : Vals vs us)
    (x : InCallC s s.heap.objs.size (bindL (envOfC qual scope s.heap.objs.size f cd).kindOf (ps.zip us) fun _ => none) (cellsFrom (s.heap.objs.size + 1) scope.names []) (bindC (envOfC qual scope s.heap.objs.size f cd).kindOf (ps.zip us) fun _ => none) s1) :
    Inv (cxOf CX P w K mg base N qual scope f cd A outer s H E) [] (start N vs) H s1 := by
  have hpl : ps.length ≤ N.length := by have := congrArg List.length S.pre; rw [List.length_take] at this; omega
  obtain ⟨h1, tk, rfl, hk⟩ := x.done
  have noA : ∀ b : Addr, b ∉ (cxOf CX P w K mg base N qual scope f cd A outer s H E).ex := fun b z => absurd (show b ∈ ([] : List Addr) from z) (by simp)
  refine ⟨⟨e0.mod, S.kind, rfl, rfl, Nat.le_refl _, fun y z c h1 h2 => ?_, fun y hy => ?_, fun y c _ h => ?_, fun _ => hd, Around.frames_deeper e0.frames, .inr ⟨rfl, rfl⟩, fun b z => absurd z (noA b), e0.bs, e0.bsz, fun b _ _ => noA b, fun b z => absurd z (noA b), e0.funs, e0.frf⟩,
    rfl, e0.bare, Un.kept hk, ⟨_, x.toInCall.ns, fun i y v h1 h2 h3 => ?_⟩, fun y c h => ⟨_, x.cell y c h⟩, e0.hok.fresh (Nat.le_refl _), fun y c h => ?_, fun p hp => absurd (show p ∈ ([] : List (Addr × Obj)) from hp) (by simp), e0.hok.kept hk, ?_⟩
  · exact name_of_addr x.apart (PySem.mem_of_lookup h1) (PySem.mem_of_lookup h2)
  · have hy : scope.names.lookup y = some .cell ∨ scope.names.lookup y = some .free := hy
    rcases hy with hy | hy
    · exact cell_has hy
    · exact absurd rfl (S.nofree _ (PySem.mem_of_lookup hy))
  · exact Nat.le_of_lt (x.above y c (PySem.mem_of_lookup h))
  · have hi : i < vs.length := by
      unfold start at h2
      by_cases hi : i < vs.length
      · exact hi
      · rw [List.getElem?_append_right (by simpa using hi)] at h2
        rw [List.getElem?_replicate] at h2
        split at h2 <;> cases h2
    have ha : vs[i]? = some v := by
      unfold start at h2
      rw [List.getElem?_append_left (by simpa using hi), List.getElem?_map] at h2
      cases e : vs[i]? with
      | none => rw [e] at h2; cases h2
      | some a => rw [e] at h2; cases h2; rfl
    obtain ⟨u, hu, rv⟩ := r.get ha
    have hp : ps[i]? = some y := by
      rw [← S.pre, List.getElem?_take_of_lt (by omega)]; exact h1
    have ndP : ps.Nodup := by rw [← S.pre]; exact S.nd.sublist (List.take_sublist _ _)
    refine ⟨u, rv, ?_⟩
    rcases S.par y (List.mem_of_getElem? hp) with k | k
    · exact .inl ⟨k, bindL_get ndP hp hu k⟩
    · obtain ⟨c, e⟩ := cell_has (n := s.heap.objs.size + 1) k
      refine .inr ⟨.inl k, c, e, ?_⟩
      have q := x.cell y c e
      rw [bindC_get ndP hp hu (by show scope.names.lookup y ≠ _; rw [k]; decide)] at q
      exact q
  · exact e0.hok.fresh (Nat.le_of_lt (x.above y c (PySem.mem_of_lookup h)))
  · unfold start
    show _ = N.length
    rw [List.length_append, List.length_map, List.length_replicate]
    omega

/-- THE RULE: a def (or a method) of the text, by its body. The body's reading t is chosen for each entry; it is run at the parameters' values -/
theorem fn_of {CX : CXT} {P : Program} {w : World} {K : PySem.W.Frag} {mg : Str → Option Value} {base : Heap} {k : Nat} {f : Addr} {name qual : Str} {params : Arguments} {body : List Stmt} {scope : Scope} {dV kV doc pm cdv ct oc : Value} {an od : Option Addr}
    {osl : Array (Option Value)} {N ps : List Str} {sp : Sp} (lk : K.lookup f = some ⟨oc, od, .func (PySem.W.fnOf name qual params body scope dV kV doc pm an cdv ct), osl⟩) (hcd : PySem.W.codeIn K cdv qual = true) (S : FnScope N ps scope)
    (len : ∀ vs H Q E, sp vs H Q E → vs.length = ps.length)
    (hbody : ∀ (A : Around) (outer : List Env) (s : Shared) (H : Hp) (vs : List V) (Q : VK) (E : XK), Room k (A.deeper (envOfC qual scope s.heap.objs.size f cdv)) → sp vs H Q E →
      ∃ t, PSs (cxOf CX P w K mg base N qual scope f cdv A outer s H E) body t ∧ t { nx := fun _ H' => Q .non H', rt := Q } (start N vs) H) :
    FnOk P w K mg base CX (k + 1) f (PySem.W.fnOf name qual params body scope dV kV doc pm an cdv ct) ps sp := by
  refine ⟨len, fun A outer s H args us vs Q E hr e0 hb r hsp => ?_⟩
  have hl := len _ _ _ _ hsp
  have KX : K.In s.heap := e0.mod.kin.keeps fun b o e => (e0.bs b o e).1
  have lim : s.heap.NoLimit := e0.mod.nolimit.keeps fun b o e => (e0.bs b o e).1
  have hkind : ∀ y ∈ ps.zip us, scope.names.lookup y.1 = some .local ∨ (scope.names.lookup y.1 = some .cell ∧ ((cellsFrom (s.heap.objs.size + 1) scope.names []).lookup y.1).isSome = true) := fun ⟨n, v⟩ hy => by
    rcases S.par n (List.of_mem_zip hy).1 with q | q
    · exact .inl q
    · exact .inr ⟨q, PySem.W.cellsFrom_some _ _ _ (.inl q)⟩
  refine codeAny_call_function hr.depth (KX _ _ lk) rfl S.co S.gen rfl (PySem.W.codeRec_of KX hcd) (hb _ _ _ _ ?_)
  refine wpAny_newFunctionEnv_cells S.kind hkind fun env he s1 x => ?_
  subst he
  refine ⟨lim.keeps x.toInCall.keep, codeAny_func ?_⟩
  obtain ⟨t, ht, hq⟩ := hbody A outer s H vs Q E (hr.deeper _) hsp
  have I : Inv (cxOf CX P w K mg base N qual scope f cdv A outer s H E) [] (start N vs) H s1 := inv_start S hr.hd e0 hl r x
  refine wpAny_mono (ht [] s1 (start N vs) H _ I hq) (fun fl s' hs => ?_) fun e s' hs => hs
  have fin : ∀ {σ' : St} {H' : Hp} {v : V} {u : Value}, Inv (cxOf CX P w K mg base N qual scope f cdv A outer s H E) [] σ' H' s' → RelV v u → Q v H' → CE outer P w H s Q u s' :=
    fun {σ' H' v u} J rv q => ⟨v, H', J.os, J.bare, J.base, J.hok, rv, q⟩
  cases fl with
  | ret u =>
    obtain ⟨v, σ', H', J, rv, q⟩ := hs
    exact fin J rv q
  | next =>
    obtain ⟨σ', H', J, q⟩ := hs
    exact fin (v := V.non) (u := Value.none) J rfl q
  | brk =>
    obtain ⟨_, _, _, q⟩ := hs
    exact False.elim q
  | cont =>
    obtain ⟨_, _, _, q⟩ := hs
    exact False.elim q
end L2

namespace L2
open PySem PySem.Spec PyProof.Rows
section
variable {X : Cx} {x : Str} {p pos : Pos} {e : Expr} {es : List Expr} {t : TA} {id T : String} {r : List V → Hp → VK → Prop}

def tCB (r : List V → Hp → VK → Prop) (t : TA) : TE := fun σ H Q => t σ H fun vs H1 => r vs H1 Q
/-- f(e, ..), f a built-in function -/
theorem pe_callB (hc : CallR X (.builtin id) r) (hg : Gl X x) (hm : X.mg x = none) (hv : bootBuiltins x = some (.builtin id)) (ha : PA X (e :: es) t) (hn : x ≠ "__name__" := by decide) (hdb : (x == ("__debug__" : Str)) = false := by decide)
    (he : starEach (e :: es) X.env = (false, eval e X.env) :: starEach es X.env := by rfl) (hpl : (backTo pos (starEach es X.env)).any (·.1) = false := by rfl) : PE X (.Call (.Name x p) (e :: es) [] pos) (tCB r t) := by
  intro pins s σ H Q I h
  refine wpAny_Call_Name_kw (ld_blt I hg hm hv ?_ hn hdb)
  exact PyProof.Rows.callWith_builtin1 (thn (ha pos pins s σ H _ I h) fun us s1 ⟨vs, H1, I1, r1, q1⟩ => hc pins s1 σ H1 vs us Q I1 r1 q1) he hpl
/-- T(e, ..), T a built-in type -/
theorem pe_callTy (hc : CallR X (.type T) r) (hg : Gl X x) (hm : X.mg x = none) (hv : bootBuiltins x = some (.type T)) (ha : PA X (e :: es) t) (hn : x ≠ "__name__" := by decide) (hdb : (x == ("__debug__" : Str)) = false := by decide)
    (he : starEach (e :: es) X.env = (false, eval e X.env) :: starEach es X.env := by rfl) (hpl : (backTo pos (starEach es X.env)).any (·.1) = false := by rfl) : PE X (.Call (.Name x p) (e :: es) [] pos) (tCB r t) := by
  intro pins s σ H Q I h
  refine wpAny_Call_Name_kw (ld_blt I hg hm hv ?_ hn hdb)
  exact PyProof.Rows.callWith_type1 (thn (ha pos pins s σ H _ I h) fun us s1 ⟨vs, H1, I1, r1, q1⟩ => hc pins s1 σ H1 vs us Q I1 r1 q1) he hpl
end
end L2

namespace HT
open PySem PyProof.Rows

/-- t < u of tuples of ints -/
def lexLt : List Int → List Int → Bool
  | [], [] => false
  | [], _ :: _ => true
  | _ :: _, [] => false
  | x :: xs, y :: ys => if x = y then lexLt xs ys else decide (x < y)
section
open PySem.SeqAt
open PySem.AutoSeq1 (wpAny_loadPart')
open PySem.MeetsSeq PySem.MeetsSeq2 PySem.MeetsSeq3

end

section
variable {prog : Program} {w : World} {A : Around} {E : Value → Shared → Prop} {s : Shared}

/-! ### t[a:b], not the whole -/
/-- a slice's bound as a place among n (d where it is left out) -/
def sIx (n d : Nat) : Option Int → Nat
  | none => d
  | some v => if v < 0 then (v + (n : Int)).toNat else min v.toNat n
theorem sIx_none (n d : Nat) : sIx n d none = d := rfl
theorem sIx_nat (n d k : Nat) : sIx n d (some (k : Int)) = min k n := by
  show (if (k : Int) < 0 then ((k : Int) + (n : Int)).toNat else min (k : Int).toNat n) = min k n
  rw [if_neg (by omega), Int.toNat_natCast]
end
end HT

namespace L2
open PySem PySem.Spec PyProof.Rows

/-! ### the parts of a slice -/
abbrev TO := St → Hp → (Option Int → Hp → Prop) → Prop
/-- a slice's part (left out, or an int) -/
def PO (X : Cx) (e : Option Expr) (t : TO) : Prop :=
  ∀ (pins : List (Addr × Obj)) (s : Shared) (σ : St) (H : Hp) (Q : Option Int → Hp → Prop), Inv X pins σ H s → t σ H Q →
    wpAny (model X.prog X.w) X.A (evalPart e X.env) (fun u s' => ∃ o H', Inv X pins σ H' s' ∧ IsPart u o ∧ Q o H') X.xe s
def tNoPart : TO := fun _ H Q => Q none H
def tPart (t : TE) : TO := fun σ H Q => t σ H fun x H1 => ∃ i, x = .int i ∧ Q (some i) H1

theorem intsAre_of {ns : List Int} : ∀ {us : List Value}, Vals (ns.map V.int) us → IntsAre us ns := by
  induction ns with
  | nil => intro us r; rw [List.map_nil] at r; cases r; exact .nil
  | cons n ns ih =>
    intro us r
    rw [List.map_cons] at r
    cases r with
    | cons r1 r2 =>
      obtain ⟨t, e⟩ := r1
      subst e
      exact .cons n t (ih r2)

section
variable {X : Cx} {e : Expr} {te : TE} {lo hi : Option Expr} {tl th : TO} {pos p2 : Pos}

theorem po_none : PO X none tNoPart := by
  intro pins s σ H Q I h
  rw [evalPart_none]
  exact wpAny_pure ⟨none, H, I, .none, h⟩
theorem po_some (h : PE X e te) : PO X (some e) (tPart te) := by
  intro pins s σ H Q I hw
  rw [evalPart_some]
  refine thn (h pins s σ H _ I hw) fun u s1 ⟨x, H1, I1, r1, q1⟩ => ?_
  obtain ⟨i, rfl, q⟩ := q1
  obtain ⟨t, rfl⟩ := r1
  exact ⟨some i, H1, I1, .int i t, q⟩

/-- what a slice of a value is, by values: the slice object stands at sl -/
def SlR (X : Cx) (r : V → Option Int → Option Int → Hp → VK → Prop) : Prop :=
  ∀ (pins : List (Addr × Obj)) (s : Shared) (σ : St) (H : Hp) (x : V) (v vl vu : Value) (lo hi : Option Int) (sl : Addr) (Q : VK), Inv X pins σ H s → RelV x v → s.heap.IsSliceOf sl vl vu .none → IsPart vl lo → IsPart vu hi → r x lo hi H Q →
    ∃ T id, typeLookup (.type T) "__getitem__" = pure (some (.builtin id)) ∧ s.TypeIs v T ∧ wpAny (model X.prog X.w) X.A (getItem v (.ref sl)) (EP X pins σ Q) X.xe s
def tSl (r : V → Option Int → Option Int → Hp → VK → Prop) (te : TE) (tl th : TO) : TE := fun σ H Q => te σ H fun x H1 => tl σ H1 fun l H2 => th σ H2 fun u H3 => r x l u H3 Q
/-- a[lo:hi], any a -/
theorem pe_slice {r : V → Option Int → Option Int → Hp → VK → Prop} (hr : SlR X r) (he : PE X e te) (hl : PO X lo tl) (hu : PO X hi th) : PE X (.Subscript e (.Slice lo hi none p2) pos) (tSl r te tl th) := by
  intro pins s σ H Q I h
  refine Subscript_ (thn (he pins s σ H _ I h) fun v s1 ⟨x, H1, I1, r1, q1⟩ => ?_)
  refine wpAny_Slice (thn (hl pins s1 σ H1 _ I1 q1) fun vl s2 ⟨l, H2, I2, pl, q2⟩ => thn (hu pins s2 σ H2 _ I2 q2) fun vu s3 ⟨u, H3, I3, pu, q3⟩ => ?_)
  rw [evalPart_none]
  refine wpAny_pure ?_
  have I4 : Inv X pins σ H3 { s3 with heap := s3.heap.push { cls := .type "slice", data := .fields #[vl, vu, .none] } } := I3.kept (t' := s3.toks) fun b ob q => Heap.get?_push_of_some _ q
  obtain ⟨T, id, hT, ht, hg⟩ := hr pins { s3 with heap := s3.heap.push { cls := .type "slice", data := .fields #[vl, vu, .none] } } σ H3 x v vl vu l u s3.heap.objs.size Q I4 r1 (Heap.IsSliceOf.new ..) pl pu q3
  show wpAny (model X.prog X.w) X.A (subscriptTail e (.Slice lo hi none p2) v (.ref s3.heap.objs.size)) (EP X pins σ Q) X.xe { s3 with heap := s3.heap.push { cls := .type "slice", data := .fields #[vl, vu, .none] } }
  exact tail_any (ops := [.ref s3.heap.objs.size, v]) ht hT hg (by with_unfolding_all rfl)

/-- the items of xs[lo:hi] -/
def cutV (xs : List V) (lo hi : Option Int) : List V := (xs.drop (HT.sIx xs.length 0 lo)).take (HT.sIx xs.length xs.length hi - HT.sIx xs.length 0 lo)
theorem cutV_length (xs : List V) (lo hi : Option Int) : (cutV xs lo hi).length ≤ xs.length := by
  unfold cutV
  rw [List.length_take, List.length_drop]
  omega
/-- t[lo:hi], not the whole of it (the whole would be t itself) -/
def rSlT (K : PySem.W.Frag) : V → Option Int → Option Int → Hp → VK → Prop := fun x lo hi H Q => ∃ a xs, x = .ref a ∧ SqT K H a xs ∧
  ¬ (HT.sIx xs.length 0 lo = 0 ∧ HT.sIx xs.length xs.length hi = xs.length) ∧ ∀ p, H p = none → Q (.ref p) (upd H p (.tup (cutV xs lo hi)))
/-! ### t < u, t + u -/
def rLtT (K : PySem.W.Frag) : R2 := fun x y H Q => ∃ a b ns ms, x = .ref a ∧ y = .ref b ∧ SqT K H a (ns.map V.int) ∧ SqT K H b (ms.map V.int) ∧ Q (.bl (HT.lexLt ns ms)) H
/-- t + u, t not empty: u empty gives t itself -/
def rCatT (K : PySem.W.Frag) : R2 := fun x y H Q => ∃ a b xs ys, x = .ref a ∧ y = .ref b ∧ SqT K H a xs ∧ SqT K H b ys ∧ xs ≠ [] ∧ xs.length + ys.length ≤ sizeLine ∧
  (ys = [] → Q (.ref a) H) ∧ (ys ≠ [] → ∀ p, H p = none → Q (.ref p) (upd H p (.tup (xs ++ ys))))
end
end L2

namespace L2
open PySem PySem.Spec PyProof.Rows

/-! ### places -/
/-- the place that an index of any sign means -/
def ixN (n : Nat) (i : Int) : Option Nat := if 0 ≤ i then (if i < n then some i.toNat else none) else if -(n : Int) ≤ i then some (i + n).toNat else none
def atI {α : Type} (xs : List α) (i : Int) : Option α := (ixN xs.length i).bind fun j => xs[j]?
theorem ixN_seq {n : Nat} {i : Int} {j : Nat} (h : ixN n i = some j) : seqIndex? i n = some j ∧ j < n ∧ -(n : Int) ≤ i ∧ i < n := by
  unfold ixN at h
  by_cases h0 : 0 ≤ i
  · rw [if_pos h0] at h
    by_cases h1 : i < n
    · rw [if_pos h1] at h
      have e : i.toNat = j := Option.some.inj h
      exact ⟨by rw [seqIndex_of h0 h1, e], by omega, by omega, h1⟩
    · rw [if_neg h1] at h; cases h
  · rw [if_neg h0] at h
    by_cases h1 : -(n : Int) ≤ i
    · rw [if_pos h1] at h
      have e : (i + n).toNat = j := Option.some.inj h
      exact ⟨by rw [seqIndex_neg (by omega) h1, e], by omega, h1, by omega⟩
    · rw [if_neg h1] at h; cases h
theorem atI_get {α : Type} {xs : List α} {i : Int} {v : α} (h : atI xs i = some v) : ∃ j, seqIndex? i xs.length = some j ∧ xs[j]? = some v ∧ j < xs.length ∧ -(xs.length : Int) ≤ i ∧ i < xs.length := by
  unfold atI at h
  cases e : ixN xs.length i with
  | none => rw [e] at h; cases h
  | some j =>
    rw [e] at h
    obtain ⟨h1, h2, h3, h4⟩ := ixN_seq e
    exact ⟨j, h1, h, h2, h3, h4⟩
theorem atI_nat {α : Type} {xs : List α} {j : Nat} {v : α} (h : xs[j]? = some v) : atI xs (j : Int) = some v := by
  have hj : j < xs.length := (List.getElem?_eq_some_iff.mp h).1
  have e : ixN xs.length (j : Int) = some j := by
    unfold ixN
    rw [if_pos (by omega), if_pos (by omega)]; simp
  unfold atI; rw [e]; exact h
/-! ### what may be subscripted -/
/-- what stands as an index of a plain subscript -/
def PlainIx (b : Expr) : Prop := ∀ o i, subscripted b false o i = operate [o, i] (getItem o i)
/-- a subscript by values -/
def IxR (X : Cx) (r : R2) : Prop :=
  ∀ (value slice : Expr) (pins : List (Addr × Obj)) (s : Shared) (σ : St) (H : Hp) (x y : V) (v u : Value) (Q : VK), Inv X pins σ H s → RelV x v → RelV y u → r x y H Q →
    subscripted slice false v u = operate [v, u] (getItem v u) → wpAny (model X.prog X.w) X.A (subscriptTail value slice v u) (EP X pins σ Q) X.xe s
/-- a call of a builtin's method by values: the receiver, the arguments -/
def MtR (X : Cx) (id : String) (r : V → List V → Hp → VK → Prop) : Prop :=
  ∀ (pins : List (Addr × Obj)) (s : Shared) (σ : St) (H : Hp) (x : V) (xs : List V) (v : Value) (us : List Value) (Q : VK), Inv X pins σ H s → RelV x v → Vals xs us → r x xs H Q →
    wpAny (model X.prog X.w) X.A (call (.builtin id) (v :: us)) (EP X pins σ Q) X.xe s
section
variable {X : Cx} {a b : Expr} {ta tb : TE} {pos : Pos}
theorem IxR.or {r r' : R2} (h : IxR X r) (h' : IxR X r') : IxR X (fun x y H Q => r x y H Q ∨ r' x y H Q) := by
  intro value slice pins s σ H x y v u Q I rx ry q hs
  rcases q with q | q
  · exact h value slice pins s σ H x y v u Q I rx ry q hs
  · exact h' value slice pins s σ H x y v u Q I rx ry q hs
/-- a[b] -/
theorem pe_ix {r : R2} (hr : IxR X r) (ha : PE X a ta) (hb : PE X b tb) (hs : PlainIx b) : PE X (.Subscript a b pos) (tOp r ta tb) := by
  intro pins s σ H Q I h
  exact Subscript_ (binT ha hb I h fun v u s2 x y H2 I2 rx ry q => hr a b pins s2 σ H2 x y v u Q I2 rx ry q (hs _ _))

def rIxL (K : PySem.W.Frag) : R2 := fun x y H Q => ∃ p xs i v, x = .ref p ∧ y = .int i ∧ SqL K H p xs ∧ atI xs i = some v ∧ Q v H
def rIxT (K : PySem.W.Frag) : R2 := fun x y H Q => ∃ p xs i v, x = .ref p ∧ y = .int i ∧ SqT K H p xs ∧ atI xs i = some v ∧ Q v H
def rIxS : R2 := fun x y H Q => ∃ z i c, x = .str z ∧ y = .int i ∧ z.length ≤ sizeLine ∧ atI z.cps.toList i = some c ∧ Q (.str ⟨#[c]⟩) H
theorem ix_list : IxR X (rIxL X.K) := by
  intro value slice pins s σ H x y v u Q I rx ry h hs
  obtain ⟨p, xs, i, z, rfl, rfl, hq, he, q⟩ := h
  cases rx
  obtain ⟨t, rfl⟩ := ry
  obtain ⟨its, r, pl, hz⟩ := I.list hq
  obtain ⟨j, h1, h2, h3, h4, h5⟩ := atI_get he
  obtain ⟨w, ew, rw'⟩ := r.get h2
  have hl := r.length
  have hn := line63
  have fin : EP X pins σ Q w s := ⟨z, H, I, rw', q⟩
  by_cases h0 : 0 ≤ i
  · have hj : i.toNat = j := by
      rw [seqIndex_of h0 h5] at h1
      exact Option.some.inj h1
    exact item_listR pl.isList h0 (by omega) (by rw [hj]; simpa using ew) fin hs
  · have hj : (i + (its.toArray.size : Int)).toNat = j := by
      rw [seqIndex_neg (by omega) h4] at h1
      rw [List.size_toArray, ← hl]
      exact Option.some.inj h1
    exact subscriptTail_builtinR (x := w) pl.isList.typeIs slot_list_getitem.lookup
      (wpAny_getItem_list_neg (Q := fun r s' => r = w ∧ EP X pins σ Q r s') pl.isList (by omega) (by rw [List.size_toArray] <;> omega) (by omega) (by rw [hj]; simpa using ew) ⟨rfl, fin⟩) hs
theorem ix_tup : IxR X (rIxT X.K) := by
  intro value slice pins s σ H x y v u Q I rx ry h hs
  obtain ⟨p, xs, i, z, rfl, rfl, hq, he, q⟩ := h
  cases rx
  obtain ⟨t, rfl⟩ := ry
  obtain ⟨its, r, pl, hz⟩ := I.tuple hq
  obtain ⟨j, h1, h2, h3, h4, h5⟩ := atI_get he
  obtain ⟨w, ew, rw'⟩ := r.get h2
  have hl := r.length
  have hn := line63
  have fin : EP X pins σ Q w s := ⟨z, H, I, rw', q⟩
  exact subscriptTail_builtinR (x := w) pl.typeIs slot_tuple_getitem.lookup
    (getItem_tuple (j := j) (Q := fun r s' => r = w ∧ EP X pins σ Q r s') pl (by omega) (by omega) (by rw [List.size_toArray, ← hl]; exact h1) (by simpa using ew) ⟨rfl, fin⟩) hs
/-- list, tuple or str -/
def rIx (K : PySem.W.Frag) : R2 := fun x y H Q => rIxL K x y H Q ∨ rIxT K x y H Q ∨ rIxS x y H Q
/-! ### xs[i] = v, any sign -/
/-- the list's object behind a store -/
theorem mapSeq_set (its : List Value) (n j : Nat) (u : Value) : Obj.mapSeq (·.setIfInBounds j u) { cls := .type "list", data := .seq its.toArray n } = { cls := .type "list", data := .seq (its.set j u).toArray n } := by
  simp [Obj.mapSeq]
theorem Inv.lst {pins : List (Addr × Obj)} {σ : St} {H : Hp} {s : Shared} {p : Addr} {xs : List V} (I : Inv X pins σ H s) (h : H p = some (.lst xs)) :
    ∃ (its : List Value) (n : Nat), Vals xs its ∧ s.heap.get? p = some { cls := .type "list", data := .seq its.toArray n } ∧ xs.length ≤ sizeLine := by
  obtain ⟨z, its, n, r, e⟩ := I.hok p _ h
  exact ⟨its, n, r, e, z⟩
/-- the list at p is written by an update of its object -/
theorem Inv.lstUpd {pins : List (Addr × Obj)} {σ : St} {H : Hp} {s : Shared} {p : Addr} {xs ys : List V} {its its' : List Value} {n n' : Nat} {f : Obj → Obj} (I : Inv X pins σ H s) (h : H p = some (.lst xs))
    (ho : s.heap.get? p = some { cls := .type "list", data := .seq its.toArray n }) (hf : f { cls := .type "list", data := .seq its.toArray n } = { cls := .type "list", data := .seq its'.toArray n' }) (r : Vals ys its') (hz : ys.length ≤ sizeLine) (t : Nat) :
    Inv X pins σ (upd H p (.lst ys)) { s with heap := s.heap.update p f, toks := t } := by
  have e : (s.heap.update p f).get? p = some { cls := .type "list", data := .seq its'.toArray n' } := by
    rw [Heap.get?_update_self f ho (by rw [hf] <;> rfl), hf]
  refine I.write (x := p) (e := p) (by rw [h]; trivial) (.inl rfl) (fun b u hb q => (Heap.get?_update_other _ _ (Ne.symm hb)).trans q) ⟨_, e⟩ ?_
  exact ⟨hz, its', n', r, e⟩
def rSetL : V → V → V → Hp → (Hp → Prop) → Prop := fun o i v H Q => ∃ p xs k j, o = .ref p ∧ i = .int k ∧ H p = some (.lst xs) ∧ ixN xs.length k = some j ∧ Q (upd H p (.lst (xs.set j v)))
theorem set_list : PSet X rSetL := by
  intro pins s σ H o i v ov iv u Q I ro ri rv h
  obtain ⟨p, xs, k, j, rfl, rfl, hp, hj, q⟩ := h
  cases ro
  obtain ⟨t, rfl⟩ := ri
  obtain ⟨its, n, r, ho, hz⟩ := I.lst hp
  obtain ⟨h1, h2, h3, h4⟩ := ixN_seq hj
  have hl := r.length
  have hn := line63
  have I' : Inv X pins σ (upd H p (.lst (xs.set j v))) { s with heap := s.heap.update p (Obj.mapSeq (·.setIfInBounds j u)) } :=
    I.lstUpd hp ho (mapSeq_set its n j u) (r.set rv j) (by rw [List.length_set]; exact hz) s.toks
  by_cases h0 : 0 ≤ k
  · have hk : k.toNat = j := by
      rw [seqIndex_of h0 h4] at h1
      exact Option.some.inj h1
    exact PySem.W.ki_setAt ho h0 (by omega) (by rw [List.size_toArray, ← hl]; exact h4) (by rw [hk]; exact ⟨_, I', q⟩)
  · have hk : (k + (its.toArray.size : Int)).toNat = j := by
      rw [seqIndex_neg (by omega) h3] at h1
      rw [List.size_toArray, ← hl]
      exact Option.some.inj h1
    exact PySem.W.ki_setBack ho (by omega) (by rw [List.size_toArray, ← hl]; exact h3) (by omega) (by rw [hk]; exact ⟨_, I', q⟩)

/-! ### slices -/
theorem slice_bounds (lo hi : Option Int) (n : Nat) : (sliceBounds lo hi none n).1 = ((HT.sIx n 0 lo : Nat) : Int) ∧ (sliceBounds lo hi none n).2.1 = ((HT.sIx n n hi : Nat) : Int) ∧ (sliceBounds lo hi none n).2.2 = 1 := by
  refine ⟨?_, ?_, rfl⟩
  · cases lo with
    | none => simp [sliceBounds, HT.sIx]
    | some i =>
      simp only [sliceBounds, HT.sIx, Option.getD_none, show (1 : Int) > 0 by decide, if_true]
      by_cases h : i < 0
      · simp only [h, if_true] <;> omega
      · simp only [h, if_false] <;> omega
  · cases hi with
    | none => simp [sliceBounds, HT.sIx]
    | some i =>
      simp only [sliceBounds, HT.sIx, Option.getD_none, show (1 : Int) > 0 by decide, if_true]
      by_cases h : i < 0
      · simp only [h, if_true] <;> omega
      · simp only [h, if_false] <;> omega
theorem slicePick_cut (its : List Value) (lo hi : Option Int) : slicePick its.toArray lo hi none = ((its.drop (HT.sIx its.length 0 lo)).take (HT.sIx its.length its.length hi - HT.sIx its.length 0 lo)).toArray := by
  obtain ⟨h1, h2, h3⟩ := slice_bounds lo hi its.toArray.size
  unfold slicePick
  rw [h1, h2, h3]
  simp only [sliceRange_one, pick_run, List.size_toArray] <;> rfl
/-- xs[lo:hi] of a list: a new list -/
def rSlL (K : PySem.W.Frag) : V → Option Int → Option Int → Hp → VK → Prop := fun x lo hi H Q => ∃ a xs, x = .ref a ∧ SqL K H a xs ∧ ∀ p, H p = none → Q (.ref p) (upd H p (.lst (cutV xs lo hi)))
theorem sl_list : SlR X (rSlL X.K) := by
  intro pins s σ H x v vl vu lo hi sl Q I rx hs pl pu h
  obtain ⟨a, xs, rfl, hx, q⟩ := h
  cases rx
  obtain ⟨its, r, ht, hz⟩ := I.list hx
  have hlen := r.length
  refine ⟨"list", _, slot_list_getitem.lookup, ht.isList.typeIs, ?_⟩
  refine wpAny_getItem_list_slice ht.isList hs pl pu .none (by simp) ?_ (by rw [List.size_toArray] <;> omega)
  rw [slicePick_cut, ← hlen]
  refine ⟨.ref s.heap.objs.size, _, I.laid (t' := s.toks) (o := .lst (cutV xs lo hi)) (fun b ob q => Heap.get?_push_of_some _ q) (Nat.le_refl _) ?_, rfl, q _ (I.hok.fresh (Nat.le_refl _))⟩
  exact ⟨Nat.le_trans (cutV_length xs lo hi) hz, _, 0, (r.drop (HT.sIx xs.length 0 lo)).take (HT.sIx xs.length xs.length hi - HT.sIx xs.length 0 lo), Heap.get?_push_size _ rfl⟩

/-! ### in, not in: flat items -/
def flatV : V → Bool
  | .non => true
  | .bl _ => true
  | .int _ => true
  | .str _ => true
  | _ => false
/-- == of flat values -/
def eqV : V → V → Bool
  | .non, .non => true
  | .bl a, .bl b => a == b
  | .bl a, .int b => (if a then 1 else 0) == b
  | .int a, .bl b => a == (if b then 1 else 0)
  | .int a, .int b => a == b
  | .str a, .str b => a == b
  | _, _ => false
/-- the items' answers, read off the values (a value's own answer does not lean on its token) -/
def eqU (x : V) (u : Value) : Bool := match u with
  | .none => eqV .non x
  | .bool b => eqV (.bl b) x
  | .int i _ => eqV (.int i) x
  | .str z _ => eqV (.str z) x
  | _ => false
def inV (x : V) (xs : List V) : Bool := xs.any fun y => eqV y x
/-- x in a list or tuple of flat items -/
def rIn (K : PySem.W.Frag) (neg : Bool) : R2 := fun x y H Q => ∃ p xs, y = .ref p ∧ (SqL K H p xs ∨ SqT K H p xs) ∧ flatV x = true ∧ xs.all flatV = true ∧ Q (.bl (if neg then !inV x xs else inV x xs)) H
/-! ### len, list(x), tuple(x) of any list or tuple that is read -/
theorem call_list_of : CallR X (.type "list") (fun xs H Q => ∃ p ys, xs = [.ref p] ∧ (SqL X.K H p ys ∨ SqT X.K H p ys) ∧ ∀ l, H l = none → Q (.ref l) (upd H l (.lst ys))) := by
  intro pins s σ H xs us Q I r h
  obtain ⟨p, ys, rfl, hq, q⟩ := h
  obtain ⟨u, rfl, rx⟩ := vals1 r
  cases rx
  have fin : ∀ (its : List Value), Vals ys its → ys.length ≤ sizeLine → ∀ (h' : Heap) (c' : Nat), (∀ b o', s.heap.get? b = some o' → h'.get? b = some o') →
      h'.get? s.heap.objs.size = some { cls := .type "list", dict := none, data := .seq its.toArray c', slots := #[] } → EP X pins σ Q (.ref s.heap.objs.size) { s with heap := h' } := fun its r' hz h' c' kp e =>
    ⟨.ref s.heap.objs.size, _, I.laid (t' := s.toks) kp (Nat.le_refl _) (show ObjOk X.prog X.w _ h' _ (.lst ys) from ⟨hz, its, c', r', e⟩), rfl, q _ (I.hok.fresh (Nat.le_refl _))⟩
  rcases hq with hq | hq
  · obtain ⟨its, r', pl, hz⟩ := I.list hq
    have hlen := r'.length
    obtain ⟨o, ho, hc, n, hd⟩ := pl.isList
    exact call_list_seq p (.inl rfl) ho hc hd (fun h' c' kp e => fin its r' hz h' c' kp e) (by simp only [List.size_toArray] <;> omega)
  · obtain ⟨its, r', pl, hz⟩ := I.tuple hq
    have hlen := r'.length
    obtain ⟨o, ho, hc, n, hd⟩ := pl
    exact call_list_seq p (.inr rfl) ho hc hd (fun h' c' kp e => fin its r' hz h' c' kp e) (by simp only [List.size_toArray] <;> omega)
/-! ### the call of a builtin's method: o.m(..) -/
/-- the value is of that builtin type -/
def tyV (K : PySem.W.Frag) (T : String) (x : V) (H : Hp) : Prop := match x with
  | .str _ => T = "str"
  | .int _ => T = "int"
  | .ref p => (T = "list" ∧ ∃ xs, SqL K H p xs) ∨ (T = "tuple" ∧ ∃ o, K.lookup p = some o ∧ o.cls = .type "tuple" ∧ o.dict = none) ∨
      (T = "dict" ∧ ((∃ kvs, H p = some (.dK kvs)) ∨ ∃ kvs, H p = some (.dT kvs))) ∨ (T = "set" ∧ ∃ S n, H p = some (.set S n))
  | _ => False
theorem tyV_is {pins : List (Addr × Obj)} {σ : St} {H : Hp} {s : Shared} {T : String} {x : V} {v : Value} (I : Inv X pins σ H s) (r : RelV x v) (ty : tyV X.K T x H) :
    s.TypeIs v T ∧ ∀ a, v = .ref a → ∃ ob, s.heap.get? a = some ob ∧ ob.dict = none := by
  cases x with
  | str z =>
    obtain ⟨t, rfl⟩ := r
    cases (show T = "str" from ty)
    exact ⟨typeIs_str s z t, fun _ e => nomatch e⟩
  | int i =>
    obtain ⟨t, rfl⟩ := r
    cases (show T = "int" from ty)
    exact ⟨typeIs_int s i t, fun _ e => nomatch e⟩
  | ref p =>
    cases r
    rcases ty with ⟨rfl, xs, hq⟩ | ⟨rfl, o, hk, hc, hd⟩ | ⟨rfl, hk⟩ | ⟨rfl, S, n, hk⟩
    · obtain ⟨its, _, pl, _⟩ := I.list hq
      refine ⟨pl.isList.typeIs, fun a e => ?_⟩
      cases e
      obtain ⟨o, n, e, c, hd, _⟩ := pl
      exact ⟨o, e, hd⟩
    · refine ⟨⟨o, I.kIn p o hk, hc⟩, fun a e => ?_⟩
      cases e
      exact ⟨o, I.kIn _ o hk, hd⟩
    · have z : ∃ o, s.heap.get? p = some o ∧ o.ExactDict := by
        rcases hk with ⟨kvs, hk⟩ | ⟨kvs, hk⟩
        · obtain ⟨_, _, _, _, o, _, _, e, ex, _⟩ := I.hok p _ hk
          exact ⟨o, e, ex⟩
        · obtain ⟨_, _, _, _, o, _, _, e, ex, _⟩ := I.hok p _ hk
          exact ⟨o, e, ex⟩
      obtain ⟨o, e, ex⟩ := z
      refine ⟨⟨o, e, ex.1⟩, fun a e2 => ?_⟩
      cases e2
      exact ⟨o, e, ex.2.1⟩
    · obtain ⟨o, _, _, _, e, ex, _⟩ := I.hok p _ hk
      refine ⟨⟨o, e, ex.1⟩, fun a e2 => ?_⟩
      cases e2
      exact ⟨o, e, ex.2.1⟩
  | _ => exact False.elim ty
def tBM0 (K : PySem.W.Frag) (T : String) (r : V → List V → Hp → VK → Prop) (to : TE) : TE := fun σ H Q => to σ H fun x H1 => tyV K T x H1 ∧ r x [] H1 Q
def tBM (K : PySem.W.Frag) (T : String) (r : V → List V → Hp → VK → Prop) (to : TE) (t : TA) : TE := fun σ H Q => to σ H fun x H1 => tyV K T x H1 ∧ t σ H1 fun xs H2 => r x xs H2 Q
variable {o e : Expr} {es : List Expr} {to : TE} {t : TA} {name : Str} {apos cpos : Pos} {T id : String} {r : V → List V → Hp → VK → Prop}
theorem pe_bm (pa : PlainAttrs T) (slot : Slot T name id) (hty : typeOf (.builtin id) = pure (.type "method_descriptor")) (hm : MtR X id r) (ho : PE X o to) (ha : PA X (e :: es) t)
    (hbase : attributeBase o name X.env (eval o X.env) = eval o X.env := by rfl)
    (hfew : ((backTo cpos (starEach (e :: es) X.env)).all (fun x => !x.1) && (backToKw cpos (keywordEach [] X.env)).all (fun x => x.1.isSome)
      && decide ((e :: es).length + ([] : List Keyword).length + (if ([] : List Keyword).isEmpty then 0 else 1) < 30)) = true := by rfl)
    (hline : (apos.endLine == cpos.line) = true := by rfl) (hs : starEach (e :: es) X.env = (false, eval e X.env) :: starEach es X.env := by rfl) (hplain : (backTo cpos (starEach es X.env)).any (·.1) = false := by rfl) :
    PE X (.Call (.Attribute o name apos) (e :: es) [] cpos) (tBM X.K T r to t) := by
  intro pins s σ H Q I h
  refine wpAny_Call_method_late hbase hfew hline rfl (thn (ho pins s σ H _ I h) fun v s1 ⟨x, H1, I1, r1, ty, q1⟩ => ?_)
  obtain ⟨h1, h2⟩ := tyV_is I1 r1 ty
  refine ⟨T, id, pa, slot, hty, h1, h2, ?_⟩
  have hA := ha cpos pins s1 σ H1 _ I1 q1
  rw [hs] at hA ⊢
  refine Calls.callWith_builtin (by show (false || (backTo cpos (starEach es X.env)).any (·.1)) = false; rw [hplain] <;> rfl) (Calls.evalArgs_plain ?_)
  exact thn hA fun us s2 ⟨vs, H2, I2, r2, q2⟩ => hm pins s2 σ H2 x vs v us Q I2 r1 r2 q2
/- xs.append(e), list.index on a module's tuple .. are MtR facts of 06m -/
end
end L2

namespace L2
open PySem PySem.Spec PyProof.Rows

def MtM (X : Cx) (id : String) (r : V → List V → Hp → VK → Prop) : Prop :=
  ∀ (pins : List (Addr × Obj)) (s : Shared) (σ : St) (H : Hp) (x : V) (xs : List V) (v : Value) (us : List Value) (Q : VK), Inv X pins σ H s → RelV x v → Vals xs us → r x xs H Q →
    wpAny (model X.prog X.w) X.A (call (.builtin id) (v :: us)) (EP X pins σ Q) X.xe s

/-! ### lists of values -/
theorem Vals.one : ∀ {x : V} {us : List Value}, Vals [x] us → ∃ u, us = [u] ∧ RelV x u
  | _, _, .cons r .nil => ⟨_, rfl, r⟩
theorem Vals.rep {xs : List V} {us : List Value} (h : Vals xs us) : ∀ k : Nat, Vals (List.replicate k xs).flatten (List.replicate k us).flatten
  | 0 => .nil
  | k + 1 => by
    rw [List.replicate_succ, List.replicate_succ, List.flatten_cons, List.flatten_cons]
    exact Vals.append h (Vals.rep h k)
theorem foldl_rep (its : List Value) : ∀ (k : Nat) (acc : List Value),
    List.foldl (fun x1 x2 => x1 ++ x2) acc.toArray (List.replicate k its.toArray) = (acc ++ (List.replicate k its).flatten).toArray
  | 0, acc => by simp
  | k + 1, acc => by
    have e : acc.toArray ++ its.toArray = (acc ++ its).toArray := by simp
    have e2 : (acc ++ its) ++ (List.replicate k its).flatten = acc ++ (List.replicate (k + 1) its).flatten := by
      rw [List.replicate_succ, List.flatten_cons, List.append_assoc]
    rw [← e2, ← foldl_rep its k (acc ++ its), ← e, List.replicate_succ, List.foldl_cons]

section
variable {X : Cx} {pins : List (Addr × Obj)} {σ : St} {H : Hp} {s : Shared} {l b : Addr} {xs ys zs : List V}

/-! ### the two steps: a tracked list is rewritten, a new list is laid -/
theorem Inv.lset {its its' : List Value} {n : Nat} {f : Array Value → Array Value} {t' : Nat} (I : Inv X pins σ H s) (hH : H l = some (.lst xs))
    (e : s.heap.get? l = some { cls := .type "list", data := .seq its.toArray n }) (hf : f its.toArray = its'.toArray) (hv : Vals ys its') (hz : ys.length ≤ sizeLine) :
    Inv X pins σ (upd H l (.lst ys)) { s with heap := s.heap.update l (Obj.mapSeq f), toks := t' } := by
  have q := PySem.IsL.update e f
  rw [hf] at q
  refine I.write (x := l) (e := l) (by rw [hH]; exact trivial) (.inl rfl) (fun b' u hb hu => (Heap.get?_update_other s.heap (Obj.mapSeq f) (Ne.symm hb)).trans hu) ⟨_, q⟩ ?_
  exact ⟨hz, its', _, hv, q⟩
theorem Inv.lnew {its : List Value} {t' : Nat} (I : Inv X pins σ H s) (hv : Vals ys its) (hz : ys.length ≤ sizeLine) :
    Inv X pins σ (upd H s.heap.objs.size (.lst ys)) { s with heap := s.heap.push { cls := .type "list", data := .seq its.toArray }, toks := t' } :=
  I.laid (fun _ _ q => Heap.get?_push_of_some _ q) (Nat.le_refl _) ⟨hz, its, 0, hv, Heap.get?_push_size _ rfl⟩
theorem Inv.fresh (I : Inv X pins σ H s) : H s.heap.objs.size = none := I.hok.fresh (Nat.le_refl _)
theorem Inv.lstM (I : Inv X pins σ H s) (hH : H l = some (.lst xs)) : xs.length ≤ sizeLine ∧ ∃ (its : List Value) (n : Nat), Vals xs its ∧ xs.length = its.length ∧ s.heap.get? l = some { cls := .type "list", data := .seq its.toArray n } := by
  obtain ⟨z, its, n, r, e⟩ := I.hok l _ hH
  exact ⟨z, its, n, r, r.length, e⟩

theorem notLongL {n : Nat} (h : n ≤ sizeLine) : Builtin.List.listTooLong n = false := by
  unfold Builtin.List.listTooLong
  exact decide_eq_false (by omega)
end

section
variable {X : Cx}

/-! ### methods -/
def rAppend : V → List V → Hp → VK → Prop := fun x vs H Q => ∃ l xs y, x = .ref l ∧ vs = [y] ∧ H l = some (.lst xs) ∧ xs.length < sizeLine ∧ Q .non (upd H l (.lst (xs ++ [y])))
theorem mt_append : MtM X "list.append" rAppend := by
  intro pins s σ H x vs v us Q I rx rv h
  obtain ⟨l, xs, y, rfl, rfl, hH, hz, q⟩ := h
  cases rx
  obtain ⟨u, rfl, ru⟩ := rv.one
  obtain ⟨z, its, n, r, hl, e⟩ := I.lstM hH
  refine call_meets F.slot_list_append ⟨_, e, rfl⟩ F.entry_list_append (F.args_list_append_2 _ _) (PySem.list_append l its.toArray n u (by rw [List.size_toArray]; omega)) ⟨e, ?_⟩
  refine ⟨.non, _, I.lset (its' := its ++ [u]) hH e (by simp) (r.append (.cons ru .nil)) ?_, rfl, q⟩
  rw [List.length_append, List.length_singleton]
  omega

def rExtend : V → List V → Hp → VK → Prop := fun x vs H Q => ∃ l b xs zs, x = .ref l ∧ vs = [.ref b] ∧ H l = some (.lst xs) ∧ H b = some (.lst zs) ∧ xs.length + zs.length ≤ sizeLine ∧ Q .non (upd H l (.lst (xs ++ zs)))
def rPop : V → List V → Hp → VK → Prop := fun x vs H Q => ∃ l xs y, x = .ref l ∧ vs = [] ∧ H l = some (.lst xs) ∧ xs[xs.length - 1]? = some y ∧ Q y (upd H l (.lst xs.dropLast))
def rPopAt : V → List V → Hp → VK → Prop := fun x vs H Q => ∃ l xs i k y, x = .ref l ∧ vs = [.int i] ∧ H l = some (.lst xs) ∧ -(2 ^ 63) ≤ i ∧ i < 2 ^ 63 ∧ seqIndex? i xs.length = some k ∧ xs[k]? = some y ∧ Q y (upd H l (.lst (xs.eraseIdx k)))
def rReverse : V → List V → Hp → VK → Prop := fun x vs H Q => ∃ l xs, x = .ref l ∧ vs = [] ∧ H l = some (.lst xs) ∧ Q .non (upd H l (.lst xs.reverse))
def rClear : V → List V → Hp → VK → Prop := fun x vs H Q => ∃ l xs, x = .ref l ∧ vs = [] ∧ H l = some (.lst xs) ∧ Q .non (upd H l (.lst []))
/-! ### list + list, list += list, list * int -/
def rCat : R2 := fun x y H Q => ∃ l b xs zs, x = .ref l ∧ y = .ref b ∧ H l = some (.lst xs) ∧ H b = some (.lst zs) ∧ xs.length + zs.length ≤ sizeLine ∧ ∀ p, H p = none → Q (.ref p) (upd H p (.lst (xs ++ zs)))
theorem op_cat : OpR X (binaryOp .Add) rCat := by
  intro pins s σ H x y v u Q I rx ry h
  obtain ⟨l, b, xs, zs, rfl, rfl, hH, hB, hz, q⟩ := h
  cases rx
  cases ry
  obtain ⟨z, its, n, r, hl, e⟩ := I.lstM hH
  obtain ⟨z2, its2, n2, r2, hl2, e2⟩ := I.lstM hB
  refine PySem.P.add_list e e2 ?_ (by rw [List.size_toArray, List.size_toArray]; omega)
  have ea : its.toArray ++ its2.toArray = (its ++ its2).toArray := by simp
  rw [ea]
  exact ⟨.ref _, _, I.lnew (t' := s.toks) (r.append r2) (by rw [List.length_append]; omega), rfl, q _ I.fresh⟩
/-- a list times an int (a negative one is nothing) -/
def rRep : R2 := fun x y H Q => ∃ l k xs, x = .ref l ∧ y = .int k ∧ H l = some (.lst xs) ∧ -(2 ^ 63) ≤ k ∧ k < 2 ^ 63 ∧ xs.length * k.toNat ≤ sizeLine ∧
  ∀ p, H p = none → Q (.ref p) (upd H p (.lst (List.replicate k.toNat xs).flatten))
theorem len_rep {α : Type} (xs : List α) (k : Nat) : (List.replicate k xs).flatten.length = k * xs.length := by
  induction k with
  | zero => simp
  | succ k ih => rw [List.replicate_succ, List.flatten_cons, List.length_append, ih, Nat.succ_mul, Nat.add_comm]
theorem op_rep : OpR X (binaryOp .Mult) rRep := by
  intro pins s σ H x y v u Q I rx ry h
  obtain ⟨l, k, xs, rfl, rfl, hH, h1, h2, hz, q⟩ := h
  cases rx
  obtain ⟨t, rfl⟩ := ry
  obtain ⟨z, its, n, r, hl, e⟩ := I.lstM hH
  have hlen : its.toArray.size * k.toNat ≤ sizeLine := by rw [List.size_toArray, ← hl]; exact hz
  have hcap : ¬ its.toArray.size * k.toNat > (2 ^ 63 - 1) / 8 := by
    have : (sizeLine : Nat) ≤ (2 ^ 63 - 1) / 8 := by decide
    omega
  have hfit : ¬ (!Builtin.List.listFitsIndex k) = true := by
    rw [fitsIndex_both h1 h2]
    exact Bool.false_ne_true
  have hlong : ¬ Builtin.List.listTooLong (its.toArray.size * k.toNat) = true := by
    rw [notLongL hlen]
    exact Bool.false_ne_true
  have hnew : List.foldl (fun x1 x2 => x1 ++ x2) #[] (List.replicate (if its.toArray.isEmpty = true then 0 else k.toNat) its.toArray) = (List.replicate k.toNat its).flatten.toArray := by
    have f0 : ∀ m : Nat, List.foldl (fun x1 x2 => x1 ++ x2) #[] (List.replicate m its.toArray) = (List.replicate m its).flatten.toArray := fun m => by
      have := foldl_rep its m []
      rw [List.nil_append] at this
      exact this
    rw [f0]
    cases its with
    | nil => simp
    | cons a r' => rw [if_neg (by simp)]
  refine wpAny_binaryOp_repeat_ref (T := "list") (U := "int") (by decide) ⟨_, e, rfl⟩ (fun s' => typeIs_int s' k t) noFill_list_mul F.fills_int_mul F.slot_int_rmul repeat_list F.slot_int_index.lookup
    (call_meets F.slot_int_rmul (typeIs_int s k t) F.entry_int_rmul (F.args_int_rmul_2 _ _) (int___rmul___int_list k t l its.toArray n)
      ⟨e, rfl, ⟨_, e, rfl⟩, call_meets F.slot_list_mul ⟨_, e, rfl⟩ F.entry_list_mul (F.args_list_mul_2 _ _) (AutoListH.list___mul___list_int_3 l its.toArray n k t hfit hcap hlong) ⟨e, ?_⟩⟩)
  rw [hnew]
  exact ⟨.ref _, _, I.lnew (t' := s.toks) (r.rep k.toNat) (by rw [len_rep, Nat.mul_comm]; exact hz), rfl, q _ I.fresh⟩

/-! ### del xs[i] -/
end

/-! ### xs[a:b] = ys -/
section
variable {prog : Program} {w : World} {A : Around} {E : Value → Shared → Prop} {s : Shared}
end

section
variable {X : Cx}
end
end L2

namespace Att
open PySem PySem.W PySem.Calls PyProof.Rows

/-! ### the script -/
theorem ints_of_wellAll {P : Params} {h : Heap} : ∀ (ns : List Int) (vs : List Value), WellAll P h vs (ns.map WData.int) → IntsAre vs ns := by
  intro ns
  induction ns with
  | nil =>
    intro vs w
    rw [List.map_nil] at w
    cases w
    exact .nil
  | cons n ns ih =>
    intro vs w
    rw [List.map_cons] at w
    cases w with
    | cons a b =>
      cases a
      exact .cons _ _ (ih _ b)

theorem script_of {l : OpenLaw} {n : Nat} (hn : l.most = some n) {P : Params} {h : Heap} {args : List WData} {vals : List Value}
    (hpre : l.row.toRowW.claim.pre args = true) (hwl : WellAll P h vals args) :
    ∃ a vs ns, vals = [Value.ref a] ∧ args = [WData.list (ns.map WData.int)] ∧ h.get? a = some { cls := .type "list", data := .seq vs.toArray } ∧ IntsAre vs ns ∧ ns.length ≤ n := by
  have hsh : WShape.hasAll [] args [.list .int] = true := (pre_splitW hpre).1
  have hc : l.pre.holds [] { args := args } = true := (pre_splitW hpre).2
  obtain ⟨d, r, rfl, h1, h2⟩ := hasAllW_cons hsh
  obtain rfl := hasAllW_nil h2
  obtain ⟨xs, rfl, h3⟩ := hasW_list h1
  obtain ⟨ns, rfl⟩ := items_int h3
  have hlen : ns.length ≤ n := by
    unfold OpenLaw.pre at hc
    have h4 : (WTm.not (.lt (.lit (.int (n : Int))) (.len (.arg 0)))).holds [] { args := [.list (ns.map .int)] } = true := by
      have h4 := (holds_andW hc).1
      rw [hn] at h4
      exact h4
    have h5 := condW_of h4 (w_not (w_lt w_lit (w_len_list (w_arg rfl))))
    rw [List.length_map] at h5
    refine Nat.le_of_not_lt fun q => ?_
    have q' : (n : Int) < ((ns.length : Nat) : Int) := by omega
    first
      | (rw [decide_eq_true q'] at h5; exact absurd h5 (by decide))
      | (simp at h5; omega)
  cases hwl with
  | cons w1 w2 =>
    cases w2
    cases w1 with
    | list ho hall => exact ⟨_, _, ns, rfl, rfl, ho, ints_of_wellAll ns _ hall, hlen⟩

theorem post_true (l : OpenLaw) (args : List WData) : l.row.toRowW.claim.post args (.bool true) args = true :=
  postW_of (r := l.row.toRowW) (X := (true == true))
    (show WShape.has [] (.bool true) .bool = true by first | rfl | decide | simp [WShape.has, WShape.arms, WShape.armsAll])
    (show (WTm.eq .res (.lit (.bool true))).value [] { args := args, res := some (.bool true), after := args } = some (.bool (true == true)) from w_eq_bool (w_res rfl) w_lit) rfl

/-! ### the attachment: holds_open's last premise (the goal 'hc' behind k_head) from a wpAny of the law's body -/
/-- the same from a codeAny of the CALL (for a layer whose function contracts speak of calls) -/
theorem attach_call {l : OpenLaw} {n : Nat} {q : Program} {loose : List Str} {XP : (Str → Option Value) → Heap → Prop} {YP : World → Heap → Prop} {d : DefRec}
    (hn : l.most = some n) (hdf : d.params.defaults = [])
    (call : ∀ (w : World) (s₀ s₁ : Shared) (mg mb : Str → Option Value) (fa : Addr) (o : Obj) (pm cd doc : Value) (a : Addr) (vs : List Value) (ns : List Int),
      Ground q loose [] XP w s₀ mg mb s₁.heap → YP w s₁.heap →
      s₁.heap.get? fa = some o → o.data = .func (docDef d.name d.params d.body d.scope pm cd doc) → s₁.heap.CodeRec cd d.name → mg d.name = some (.ref fa) →
      s₁.heap.get? a = some { cls := .type "list", data := .seq vs.toArray } → IntsAre vs ns → ns.length ≤ n → s₁.gens = #[] →
      codeAny (model l.prog w) callerA (.call (.ref fa) ⟨[.ref a], []⟩) (fun r s' => r = .ok (.ret (.bool true)) ∧ OldK s₁.heap s'.heap ∧ s'.os = s₁.os ∧ AllBare s'.gens) s₁) :
    WalkO q loose XP YP l.row.toRowW d [] (fun f vs => PySem.call f vs) := by
  intro w s₀ s₁ mg mb G Y fa o pm cd doc dV kV ho hd hcd hD hmg hg args vals as hpre hlay hrd hwl hlo
  obtain rfl : dV = .none := Dflts.none hD hdf
  obtain rfl : kV = .none := Dflts.noKw hD
  obtain ⟨a, vs, ns, rfl, rfl, hobj, hints, hlen⟩ := script_of hn hpre hwl
  refine enter_call (codeAny_mono (call w s₀ s₁ mg mb fa o pm cd doc a vs ns G Y ho (fd_plain hd) hcd hmg hobj hints hlen hg) fun r s' hq => ?_)
  obtain ⟨rfl, h2, h3, h4⟩ := hq
  exact ⟨.inl ⟨.bool true, .bool true, [], rfl, fun _ => rfl, .bool true, post_true l _, fun _ => ⟨List.Pairwise.nil, fun _ hm => (nomatch hm)⟩⟩, h2, h3, h4⟩

/-! ### rules over ANY heap (no ledger) from facts about the written part K: the library's own take a ledger (News) for what they write -/
section
variable {prog : Program} {w : World} {A : Around} {E : Value → Shared → Prop} {s : Shared} {K : Frag}

/-! the whole heap as the ledger: makes every rule that writes through a ledger a rule over any heap -/
def noObjs (h : Heap) : Heap := { h with objs := #[] }
def ledger (h : Heap) (L d : Addr) : List (Addr × Obj) := (List.range h.objs.size).filterMap fun a => if a = L ∨ a = d then none else (h.get? a).map fun o => (a, o)
end
end Att

namespace L2
open PySem PySem.Spec PyProof.Rows

theorem vals_ints : ∀ {vs : List Value} {ns : List Int}, IntsAre vs ns → Vals (ns.map V.int) vs
  | _, _, .nil => .nil
  | _, _, .cons n t h => .cons ⟨t, rfl⟩ (vals_ints h)

/-- nothing is tracked but the script, known to the object (or it is an object of the module) -/
def Only (H : Hp) : Prop := ∀ b, H b = none ∨ ∃ o xs, H b = some (.frz o (.lst xs))

/-- THE HEAD: the law's promise, at the heap behind the top. F, the promise of the law's def, may use that base is part of the heap (so K.In base, base.Ns mainGlobals mg stand in Mod) -/
theorem law_call {P : Program} {w : World} {K : PySem.W.Frag} {mg mb : Str → Option Value} {CX : CXT} {k : Nat} {fa a : Addr} {fd : FuncData} {x : Str} {sp : Sp} {s₁ : Shared} {vs : List Value} {ns : List Int}
    (KX : K.In s₁.heap) (hns : s₁.heap.Ns mainGlobals mg) (hb : s₁.heap.Ns builtinsNs mb) (hbb : ∀ x : Str, x ≠ "__name__" → mb x = bootBuiltins x) (hlim : s₁.heap.NoLimit) (hg : s₁.gens = #[])
    (ha : s₁.heap.get? a = some { cls := .type "list", data := .seq vs.toArray }) (hi : IntsAre vs ns) (hl : ns.length ≤ sizeLine) (hr : Room k callerA)
    (F : ∀ base : Heap, K.In base → base.Ns mainGlobals mg → FnOk P w K mg base CX k fa fd [x] sp) (hbind : ∀ (s : Shared) (u : Value), BindsTo s fd ⟨[u], []⟩ [(x, u)])
    (hsp : ∀ H : Hp, Only H → SqL K H a (ns.map V.int) → sp [.ref a] H (fun v _ => v = .bl true) fun _ _ _ => False)
    (hCX : ∀ H e s', CX [] H s₁ (fun _ _ _ => False) e s' → False) :
    codeAny (model P w) callerA (.call (.ref fa) ⟨[.ref a], []⟩) (fun r s' => r = .ok (.ret (.bool true)) ∧ OldK s₁.heap s'.heap ∧ s'.os = s₁.os ∧ AllBare s'.gens) s₁ := by
  have rv := vals_ints hi
  have lenV := hi.length
  -- from an abstract heap in which nothing but the script may be tracked
  have core : ∀ H : Hp, Only H → SqL K H a (ns.map V.int) → HOk P w H s₁.heap → (∀ b, H b ≠ none → b = a) → (H a ≠ none → K.lookup a = none) →
      codeAny (model P w) callerA (.call (.ref fa) ⟨[.ref a], []⟩) (fun r s' => r = .ok (.ret (.bool true)) ∧ OldK s₁.heap s'.heap ∧ s'.os = s₁.os ∧ AllBare s'.gens) s₁ := by
    intro H hO hS hok hA hK
    have base_of : ∀ {b : Addr} {o : Obj}, s₁.heap.get? b = some o → H b = none → (hidT s₁.heap H).get? b = some o := fun e n => hidT_get e n
    have noA : ∀ {b : Addr} {o : Obj} {es : Array DictEntry} {ep : Nat}, s₁.heap.get? b = some o → o.data = .dict es ep → H b = none := fun {b o es ep} e d => by
      cases q : H b with
      | none => rfl
      | some u =>
        have e' : b = a := hA b (by rw [q]; simp)
        subst e'
        rw [ha] at e; cases e
        have d' : Data.seq vs.toArray _ = Data.dict es ep := d
        cases d'
    have nsK : ∀ {b : Addr} {m : Str → Option Value}, s₁.heap.Ns b m → (hidT s₁.heap H).Ns b m := fun {b m} ⟨o, es, ep, e, d, r⟩ => ⟨o, es, ep, base_of e (noA e d), d, r⟩
    have hKb : K.In (hidT s₁.heap H) := fun b o e => base_of (KX b o e) (by
      cases q : H b with
      | none => rfl
      | some u =>
        have e' : b = a := hA b (by rw [q]; simp)
        subst e'
        rw [hK (by rw [q]; simp)] at e; cases e)
    have hM : Mod K mg (hidT s₁.heap H) := ⟨hKb, nsK hns, ⟨mb, nsK hb, hbb⟩, let ⟨mc, h1, h2⟩ := hlim; ⟨mc, nsK h1, h2⟩⟩
    have e0 : Env0 P w K mg (hidT s₁.heap H) callerA [] s₁ H := ⟨rfl, hM, fun b o e => of_hidT e, Nat.le_of_eq (hidT_size _ _), trivial, fun b hb => absurd (show b ∈ ([] : List Addr) from hb) (by simp), hok, .of_eq hg⟩
    refine codeAny_mono ((F _ hKb (nsK hns)).run callerA [] s₁ H ⟨[.ref a], []⟩ [.ref a] [.ref a] _ _ hr e0 (hbind s₁ (.ref a)) (.cons rfl .nil) (hsp H hO hS)) fun r s' h => ?_
    cases r with
    | error e => exact (hCX H e s' h).elim
    | ok fl =>
      cases fl with
      | next => exact False.elim h
      | brk => exact False.elim h
      | cont => exact False.elim h
      | ret u =>
        obtain ⟨v, H', os, bare, un, hok', r', q⟩ := h
        have q' : v = .bl true := q
        subst q'
        obtain rfl : u = Value.bool true := r'
        refine ⟨rfl, OldK.of_keep fun b o e => ?_, os, bare⟩
        cases q : H b with
        | none => exact un.keep b o e q (by intro z; exact absurd (show b ∈ ([] : List Addr) from z) (by simp)) (by simp)
        | some u =>
          rcases hO b with z | ⟨ob, xs, z⟩
          · rw [q] at z; cases z
          · have z2 := un.frzs b ob _ z
            obtain ⟨e1, _⟩ := hok b _ z
            obtain ⟨e2, _⟩ := hok' b _ z2
            rw [e] at e1; cases e1
            exact e2
  cases hk : K.lookup a with
  | some o =>
    -- the script is one of the module's own objects
    have e := KX a o hk
    rw [ha] at e
    cases e
    refine core (fun _ => none) (fun _ => .inl rfl) (.inr ⟨_, vs.toArray, _, hk, rfl, rfl, rfl, by rw [List.size_toArray, lenV]; exact hl, by simpa using rv⟩) (fun b u z => by have z' : (none : Option HO) = some u := z; cases z') (fun b z => absurd rfl z) fun z => absurd rfl z
  | none =>
    refine core (fun b => if b = a then some (.frz { cls := .type "list", data := .seq vs.toArray } (.lst (ns.map V.int))) else none) (fun b => ?_) (.inl (.inr ⟨{ cls := .type "list", data := .seq vs.toArray }, if_pos rfl⟩)) (fun b u z => ?_) (fun b z => ?_) fun _ => hk
    · by_cases hb : b = a
      · exact .inr ⟨_, _, if_pos hb⟩
      · exact .inl (if_neg hb)
    · by_cases hb : b = a
      · have z' := (if_pos hb).symm.trans z
        cases z'
        subst hb
        exact ⟨ha, by rw [List.length_map]; exact hl, vs, _, rv, ha⟩
      · have z' := (if_neg hb).symm.trans z
        cases z'
    · by_cases hb : b = a
      · exact hb
      · exact absurd (if_neg hb) z
end L2

namespace L2
open PySem PySem.Spec PyProof.Rows

abbrev KOf {K : PySem.W.Frag} {h : Heap} (_ : K.In h) : PySem.W.Frag := K

/-- the goal that k_head leaves (case hc), from the law's promise. F gives the function object fd (K's own) once, then the promise over every base -/
theorem walk_of {l : PySem.W.OpenLaw} {n k : Nat} {q : Program} {loose : List Str} {XP : (Str → Option Value) → Heap → Prop} {YP : World → Heap → Prop} {d : DefRec} {K : Params → PySem.W.Frag} {CX : World → CXT} {sp : World → Sp} {x : Str}
    (hn : l.most = some n) (hn2 : n ≤ sizeLine) (hdf : d.params.defaults = []) (hr : Room k callerA)
    (hY : ∀ (w : World) (h : Heap), YP w h → (K w.params).In h)
    (F : ∀ (w : World) (mg : Str → Option Value) (fa : Addr) (h : Heap), (K w.params).In h → h.Ns mainGlobals mg → mg d.name = some (.ref fa) →
      ∃ fd : FuncData, (∀ (s : Shared) (u : Value), BindsTo s fd ⟨[u], []⟩ [(x, u)]) ∧
        ∀ base : Heap, (K w.params).In base → base.Ns mainGlobals mg → FnOk l.prog w (K w.params) mg base (CX w) k fa fd [x] (sp w))
    (hsp : ∀ (w : World) (H : Hp) (a : Addr) (ns : List Int), ns.length ≤ n → Only H → SqL (K w.params) H a (ns.map V.int) → sp w [.ref a] H (fun v _ => v = .bl true) fun _ _ _ => False)
    (hCX : ∀ (w : World) (H : Hp) (s : Shared) (e : Value) (s' : Shared), CX w [] H s (fun _ _ _ => False) e s' → False) :
    PySem.W.WalkO q loose XP YP l.row.toRowW d [] (fun f vs => PySem.call f vs) := by
  refine Att.attach_call hn hdf fun w s₀ s₁ mg mb fa o pm cd doc a vs ns G Y ho hd hcd hmg hobj hints hlen hg => ?_
  have KX := hY w _ Y
  obtain ⟨fd, hb, hF⟩ := F w mg fa _ KX G.T.g hmg
  exact law_call KX G.T.g G.T.b G.T.builtins G.T.nolimit hg hobj hints (Nat.le_trans hlen hn2) hr hF hb (fun H hO hS => hsp w H a ns hlen hO hS) fun H e s' => hCX w H s₁ e s'
end L2

/- THE LAST THEOREM (shape; LID, My.* are yours):
   My.Adr: a structure of the addresses that your layer names (classes, functions); My.Txt K t: a structure (Prop) of the equations over K;
   My.txt_mk : {K} {implicit addresses ..} (e1 : nsIn K mainGlobals "law" = some (some (.ref f))) (e2 : K.lookup f = some ⟨oc, od, .func (fnOf "law" "law" params body scope dV kV doc pm an cdv ct), sl⟩) (e3 : codeIn K cdv "law" = true) .. : ∃ t, My.Txt K t

set_option maxRecDepth 100000 in
set_option maxHeartbeats 0 in
theorem PySem.Challenge.cw_LID_holds : PySem.Challenge.rw_LID.Holds := by
  w_on; o_law; k_head; (case hw => w_witness2)
  k_fill
  refine L2.walk_of (l := PySem.Challenge.rw_LID) (n := 63) (k := 40) (x := "script") (CX := fun w => ..) (sp := fun _ => My.sp_law) rfl (by decide) rfl ⟨rfl, by decide, by decide⟩ (fun w h Y => PySem.W.kIn_of Y) ?F ?S ?C
  case F =>
    intro w mg fa h KX G hmg
    have T : ∃ t, My.Txt (L2.KOf KX) t := by
      dsimp only [L2.KOf]                          -- K must stand as «<heap const> w.params» for k_is
      refine' My.txt_mk ?e1 ?e2 ?e3 ..
      (case e1 => PySem.W.k_is)                    -- in the order: a name -> its address -> its object -> its parts
      (case e2 => PySem.W.k_is)
      ..
    obtain ⟨t, T⟩ := T
    have e0 := hmg.symm.trans (PySem.W.mg_of KX G T.law)
    cases e0                                       -- fa is the law's own address
    exact ⟨_, fun s u => .of_eq rfl, fun base kb nb => My.law_fn T kb nb⟩     -- if «.of_eq rfl» comes too early: refine' ⟨_, ?b, fun base kb nb => My.law_fn T kb nb⟩; exact fun s u => .of_eq rfl
  case S => exact fun w H a ns hl hO hS => ..
  case C => exact ..
(the tactic k_is has no namespace: write k_is) -/

/-! SHORT WORDS over the layer: a def of the text, its body, what a loop and a test want. -/
namespace L2
open PySem PySem.Spec PyProof.Rows

/-! ### the text by places -/
/-- the j-th statement of a class's body -/
def inClass (s : Stmt) (j : Nat) : Stmt := match s with
  | .ClassDef _ _ _ body _ _ _ _ _ _ _ => body.getD j (.Pass ⟨0, 0, 0, 0⟩)
  | _ => .Pass ⟨0, 0, 0, 0⟩
def defArgs (s : Stmt) : Arguments := match s with
  | .FunctionDef _ a _ _ _ _ _ _ _ _ => a
  | _ => { posonlyargs := [], args := [], vararg := none, kwonlyargs := [], kw_defaults := [], kwarg := none, defaults := [] }
def defBody (s : Stmt) : List Stmt := match s with
  | .FunctionDef _ _ b _ _ _ _ _ _ _ => b
  | _ => []
def defScope (s : Stmt) : Scope := match s with
  | .FunctionDef _ _ _ _ _ _ sc _ _ _ => sc
  | _ => { kind := .function, names := [], isGenerator := false, isCoroutine := false }

/-! ### no exception leaves a def -/
abbrev CX0 : CXT := fun _ _ _ _ _ _ => False
abbrev E0 : XK := fun _ _ _ => False
theorem pass0 {X : Cx} : Passes CX0 X E0 := fun _ _ _ _ _ _ _ h => h.elim

/-! ### a def (or method) of the text as it stands behind the top -/
structure Fun (K : PySem.W.Frag) (x qual : Str) (st : Stmt) (f : Addr) (fd : FuncData) : Prop where
  ex : ∃ (oc : Value) (od : Option Addr) (kV doc pm : Value) (an : Option Addr) (cdv ct : Value) (osl : Array (Option Value)),
    fd = PySem.W.fnOf x qual (defArgs st) (defBody st) (defScope st) .none kV doc pm an cdv ct ∧ K.lookup f = some ⟨oc, od, .func fd, osl⟩ ∧ PySem.W.codeIn K cdv qual = true
  kp : PySem.W.keepIn K (.ref f) = true
section
variable {P : Program} {w : World} {K : PySem.W.Frag} {mg : Str → Option Value} {base : Heap}
/-- THE RULE for a def: its body as a term of rules, and the reading of that term -/
theorem Fun.ok {x qual : Str} {st : Stmt} {f : Addr} {fd : FuncData} {N ps : List Str} {k : Nat} {sp : Sp} (F : Fun K x qual st f fd) (S : FnScope N ps (defScope st)) (len : ∀ vs H Q E, sp vs H Q E → vs.length = ps.length)
    (hbody : ∀ (cdv : Value) (A : Around) (outer : List Env) (s : Shared) (H : Hp) (vs : List V) (Q : VK) (E : XK), Room k (A.deeper (envOfC qual (defScope st) s.heap.objs.size f cdv)) → sp vs H Q E →
      ∃ t, PSs (cxOf CX0 P w K mg base N qual (defScope st) f cdv A outer s H E).nox (defBody st) t ∧ t { nx := fun _ H' => Q .non H', rt := Q } (start N vs) H) : FnOk P w K mg base CX0 (k + 1) f fd ps sp := by
  obtain ⟨oc, od, kV, doc, pm, an, cdv, ct, osl, rfl, lk, hcd⟩ := F.ex
  refine fn_of lk hcd S len fun A outer s H vs Q E hr hsp => ?_
  obtain ⟨t, h, q⟩ := hbody cdv A outer s H vs Q E hr hsp
  exact ⟨t, h.nox, q⟩
/-- how its arguments bind (no defaults): h is «fun _ _ _ _ _ _ us hl => match us, hl with | [_, _], _ => rfl», one _ a parameter -/
theorem Fun.binds {x qual : Str} {st : Stmt} {f : Addr} {fd : FuncData} {ps : List Str} (F : Fun K x qual st f fd)
    (h : ∀ (kV doc pm : Value) (an : Option Addr) (cdv ct : Value) (us : List Value), us.length = ps.length → bindArgs (PySem.W.fnOf x qual (defArgs st) (defBody st) (defScope st) .none kV doc pm an cdv ct) ⟨us, []⟩ = pure (ps.zip us)) : Binds K fd ps [] := by
  obtain ⟨oc, od, kV, doc, pm, an, cdv, ct, osl, rfl, lk, hcd⟩ := F.ex
  exact .all (h kV doc pm an cdv ct)
theorem fun_mk {x qual : Str} {st : Stmt} {f : Addr} {oc : Value} {od an : Option Addr} {osl : Array (Option Value)} {kV doc pm cdv ct : Value} (l : K.lookup f = some ⟨oc, od, .func (PySem.W.fnOf x qual (defArgs st) (defBody st) (defScope st) .none kV doc pm an cdv ct), osl⟩)
    (c : PySem.W.codeIn K cdv qual = true) (k : PySem.W.keepIn K (.ref f) = true) : Fun K x qual st f (PySem.W.fnOf x qual (defArgs st) (defBody st) (defScope st) .none kV doc pm an cdv ct) := ⟨⟨oc, od, kV, doc, pm, an, cdv, ct, osl, rfl, l, c⟩, k⟩
end
/-! ### expressions in short: the name that stands in the i-th slot -/
section
variable {X : Cx}
theorem pv (i : Nat) {x : Str} {pos : Pos} (hN : X.N[i]? = some x := by rfl) (hv : Vis X.env.scope x := by first | exact Or.inl rfl | exact Or.inr (Or.inl rfl) | exact Or.inr (Or.inr rfl)) (hd : (x == ("__debug__" : Str)) = false := by decide)
    (hcd : (x == ("__classdict__" : Str)) = false := by decide) : PE X (.Name x pos) (tVar i) := pe_var hN hv hd hcd
end

/-! ### tests -/
theorem iteF {A B : Prop} (h : B) : if false = true then A else B := by
  rw [if_neg Bool.false_ne_true]
  exact h
theorem iteT {A B : Prop} (h : A) : if true = true then A else B := by
  rw [if_pos rfl]
  exact h
/-! ### heaps -/
/-- all that was tracked is as it was -/
def Same (H H' : Hp) : Prop := ∀ b o, H b = some o → H' b = some o
theorem Same.refl (H : Hp) : Same H H := fun _ _ h => h
theorem Same.trans {H H1 H2 : Hp} (a : Same H H1) (b : Same H1 H2) : Same H H2 := fun c o h => b c o (a c o h)
theorem Same.free {H H' : Hp} (e : Same H H') {l : Addr} (h : H' l = Option.none) : H l = Option.none := by
  cases q : H l with
  | none => rfl
  | some o =>
    rw [e l o q] at h
    cases h
end L2

set_option Elab.async false
set_option linter.all false
set_option maxRecDepth 100000
namespace L2
open PySem PySem.Spec PyProof.Rows

/-! ### what a value stands for, read off the abstract heap; equality at any depth -/
def PdAt (K : PySem.W.Frag) (H : Hp) : Nat → PyData → V → Prop
  | 0, d, v => match d with
    | .none => v = .non
    | .bool b => v = .bl b
    | .int i => v = .int i
    | .str x => v = .str x ∧ PyData.strOk x = true
    | _ => False
  | n + 1, d, v => match d with
    | .none => v = .non
    | .bool b => v = .bl b
    | .int i => v = .int i
    | .str x => v = .str x ∧ PyData.strOk x = true
    | .list ds => ∃ a xs, v = .ref a ∧ SqL K H a xs ∧ Paired (PdAt K H n) ds xs
    | .tuple ds => ∃ a xs, v = .ref a ∧ SqT K H a xs ∧ Paired (PdAt K H n) ds xs
    | .dict _ => False
section
variable {X : Cx} {pins : List (Addr × Obj)} {σ : St} {H : Hp} {s : Shared}
theorem pd_reads (I : Inv X pins σ H s) : ∀ (n : Nat) (d : PyData) (v : V) (u : Value), PdAt X.K H n d v → RelV v u → ∃ as, Reads s.heap u d as := by
  intro n
  induction n with
  | zero =>
    intro d v u h r
    cases d with
    | none => cases (show v = .non from h); cases (show u = Value.none from r); exact ⟨_, Reads.none⟩
    | bool b => cases (show v = .bl b from h); cases (show u = Value.bool b from r); exact ⟨_, Reads.bool b⟩
    | int i => cases (show v = .int i from h); obtain ⟨t, rfl⟩ := (show ∃ t, u = Value.int i t from r); exact ⟨_, Reads.int i t⟩
    | str x => cases (show v = .str x ∧ _ from h).1; obtain ⟨t, rfl⟩ := (show ∃ t, u = Value.str x t from r); exact ⟨_, Reads.str x t⟩
    | list _ => exact (show False from h).elim
    | tuple _ => exact (show False from h).elim
    | dict _ => exact (show False from h).elim
  | succ n ih =>
    have all : ∀ (ds : List PyData) (xs : List V) (us : List Value), Paired (PdAt X.K H n) ds xs → Vals xs us → ∃ as, ReadsAll s.heap us ds as := by
      intro ds xs us p
      induction p generalizing us with
      | nil => intro r; cases r; exact ⟨_, ReadsAll.nil⟩
      | cons q _ hi =>
        intro r
        cases r with
        | cons r1 rr =>
          obtain ⟨as, h1⟩ := ih _ _ _ q r1
          obtain ⟨bs, h2⟩ := hi _ rr
          exact ⟨_, ReadsAll.cons h1 h2⟩
    intro d v u h r
    cases d with
    | none => cases (show v = .non from h); cases (show u = Value.none from r); exact ⟨_, Reads.none⟩
    | bool b => cases (show v = .bl b from h); cases (show u = Value.bool b from r); exact ⟨_, Reads.bool b⟩
    | int i => cases (show v = .int i from h); obtain ⟨t, rfl⟩ := (show ∃ t, u = Value.int i t from r); exact ⟨_, Reads.int i t⟩
    | str x => cases (show v = .str x ∧ _ from h).1; obtain ⟨t, rfl⟩ := (show ∃ t, u = Value.str x t from r); exact ⟨_, Reads.str x t⟩
    | list ds =>
      obtain ⟨a, xs, rfl, hq, hp⟩ := (show ∃ a xs, v = .ref a ∧ SqL X.K H a xs ∧ Paired (PdAt X.K H n) ds xs from h)
      cases (show u = Value.ref a from r)
      obtain ⟨its, rv, pl, hz⟩ := I.list hq
      obtain ⟨as, ra⟩ := all _ _ _ hp rv
      obtain ⟨o, ho, hc, k, hd⟩ := pl.isList
      exact ⟨_, reads_list_at ho hc hd (by simpa using ra)⟩
    | tuple ds =>
      obtain ⟨a, xs, rfl, hq, hp⟩ := (show ∃ a xs, v = .ref a ∧ SqT X.K H a xs ∧ Paired (PdAt X.K H n) ds xs from h)
      cases (show u = Value.ref a from r)
      obtain ⟨its, rv, pl, hz⟩ := I.tuple hq
      obtain ⟨as, ra⟩ := all _ _ _ hp rv
      obtain ⟨o, ho, hc, k, hd⟩ := (show s.heap.IsTuple a its.toArray from pl)
      exact ⟨_, reads_tuple_at ho hc hd (by simpa using ra)⟩
    | dict _ => exact (show False from h).elim
end
theorem pd_shape {K : PySem.W.Frag} {H : Hp} : ∀ (n : Nat) (d : PyData) (v : V), PdAt K H n d v → d.canLay0 = true ∧ d.depth ≤ n := by
  intro n
  induction n with
  | zero =>
    intro d v h
    cases d with
    | str x => simp [PyData.canLay0, PyData.depth, (show v = .str x ∧ PyData.strOk x = true from h).2]
    | list _ => exact (show False from h).elim
    | tuple _ => exact (show False from h).elim
    | dict _ => exact (show False from h).elim
    | _ => simp [PyData.canLay0, PyData.depth]
  | succ n ih =>
    have all : ∀ (ds : List PyData) (xs : List V), Paired (PdAt K H n) ds xs → PyData.canLayAll0 ds = true ∧ PyData.depthAll ds ≤ n := by
      intro ds xs p
      induction p with
      | nil => simp [PyData.canLayAll0, PyData.depthAll]
      | cons q _ hi =>
        have h1 := ih _ _ q
        simp only [PyData.canLayAll0, PyData.depthAll, h1.1, hi.1, Bool.and_self, true_and]
        have a1 := h1.2
        have a2 := hi.2
        omega
    intro d v h
    cases d with
    | str x => simp [PyData.canLay0, PyData.depth, (show v = .str x ∧ PyData.strOk x = true from h).2]
    | list ds =>
      obtain ⟨a, xs, rfl, hq, hp⟩ := (show ∃ a xs, v = .ref a ∧ SqL K H a xs ∧ Paired (PdAt K H n) ds xs from h)
      have q := all _ _ hp
      have q2 := q.2
      simp only [PyData.canLay0, PyData.depth, q.1, true_and]
      omega
    | tuple ds =>
      obtain ⟨a, xs, rfl, hq, hp⟩ := (show ∃ a xs, v = .ref a ∧ SqT K H a xs ∧ Paired (PdAt K H n) ds xs from h)
      have q := all _ _ hp
      have q2 := q.2
      simp only [PyData.canLay0, PyData.depth, q.1, true_and]
      omega
    | dict _ => exact (show False from h).elim
    | _ => simp [PyData.canLay0, PyData.depth]
def rEqP (K : PySem.W.Frag) : R2 := fun x y H Q => ∃ d e, PdAt K H 9 d x ∧ PdAt K H 9 e y ∧ Q (.bl (PyData.eqv d e)) H
def rNeP (K : PySem.W.Frag) : R2 := fun x y H Q => ∃ d e, PdAt K H 9 d x ∧ PdAt K H 9 e y ∧ Q (.bl (!PyData.eqv d e)) H
section
variable {X : Cx}
theorem pd_shaped {K : PySem.W.Frag} {H : Hp} {d : PyData} {v : V} (h : PdAt K H 9 d v) : SeqAt.shaped d = true := by
  have q := pd_shape 9 d v h
  unfold SeqAt.shaped
  rw [q.1, Bool.true_and]
  exact decide_eq_true (Nat.le_trans q.2 (by decide))
theorem op_eqP (hu : X.A.units + 64 < cLine) : OpR X (compareOp .Eq) (rEqP X.K) := by
  intro pins s σ H x y v u Q I rx ry h
  obtain ⟨d, e, hd, he, q⟩ := h
  obtain ⟨as, ra⟩ := pd_reads I 9 d x v hd rx
  obtain ⟨bs, rb⟩ := pd_reads I 9 e y u he ry
  exact eq_dataH ra rb (pd_shaped hd) (pd_shaped he) hu ⟨.bl _, H, I, rfl, q⟩
theorem op_neP (hu : X.A.units + 64 < cLine) : OpR X (compareOp .NotEq) (rNeP X.K) := by
  intro pins s σ H x y v u Q I rx ry h
  obtain ⟨d, e, hd, he, q⟩ := h
  obtain ⟨as, ra⟩ := pd_reads I 9 d x v hd rx
  obtain ⟨bs, rb⟩ := pd_reads I 9 e y u he ry
  exact ne_dataH ra rb (pd_shaped hd) (pd_shaped he) hu ⟨.bl _, H, I, rfl, q⟩
end
abbrev iL (ns : List Int) : List V := ns.map V.int
abbrev pL (ns : List Int) : PyData := .list (ns.map PyData.int)
theorem eqvAll_ints : ∀ (xs ys : List Int), PyData.eqvAll (xs.map PyData.int) (ys.map PyData.int) = decide (xs = ys)
  | [], [] => by simp [PyData.eqvAll]
  | [], y :: ys => by simp [PyData.eqvAll]
  | x :: xs, [] => by simp [PyData.eqvAll]
  | x :: xs, y :: ys => by
    simp only [List.map_cons, PyData.eqvAll, PyData.eqv, eqvAll_ints xs ys, List.cons.injEq]
    by_cases h1 : x = y <;> by_cases h2 : xs = ys <;> simp [h1, h2]
theorem eqv_pints (xs ys : List Int) : PyData.eqv (pL xs) (pL ys) = decide (xs = ys) := by
  show PyData.eqvAll _ _ = _
  exact eqvAll_ints xs ys
theorem paired_ints {K : PySem.W.Frag} {H : Hp} {n : Nat} : ∀ ns : List Int, Paired (PdAt K H n) (ns.map PyData.int) (iL ns)
  | [] => .nil
  | i :: ns => .cons (by cases n <;> exact (rfl : V.int i = V.int i)) (paired_ints ns)
theorem pd_ints {K : PySem.W.Frag} {H : Hp} {n : Nat} {a : Addr} {ns : List Int} (h : SqL K H a (iL ns)) : PdAt K H (n + 1) (pL ns) (.ref a) := ⟨a, iL ns, rfl, h, paired_ints ns⟩
theorem pd_int {K : PySem.W.Frag} {H : Hp} {n : Nat} {i : Int} : PdAt K H n (.int i) (.int i) := by cases n <;> exact (rfl : V.int i = V.int i)
theorem pd_bl {K : PySem.W.Frag} {H : Hp} {n : Nat} {b : Bool} : PdAt K H n (.bool b) (.bl b) := by cases n <;> exact (rfl : V.bl b = V.bl b)
/-! ### intro rules -/
section
variable {K : PySem.W.Frag} {σ : St} {H : Hp} {Q : VK}
theorem i_var {i : Nat} {v : V} (h : σ[i]? = some (some v)) (q : Q v H) : tVar i σ H Q := ⟨v, h, q⟩
theorem i_I0 {g : Int → Int → V} {i j : Int} (q : Q (g i j) H) : rI0 g (.int i) (.int j) H Q := ⟨i, j, rfl, rfl, q⟩
theorem i_U {g : Int → V} {i : Int} (q : Q (g i) H) : rU g (.int i) H Q := ⟨i, rfl, q⟩
theorem beq_dec (i j : Int) : (i == j) = decide (i = j) := by
  by_cases h : i = j <;> simp [h]
theorem i_eqI {i j : Int} (q : Q (.bl (decide (i = j))) H) : rEqP K (.int i) (.int j) H Q := ⟨_, _, pd_int, pd_int, by rw [← beq_dec] at q; simpa [PyData.eqv] using q⟩
theorem i_neI {i j : Int} (q : Q (.bl (!decide (i = j))) H) : rNeP K (.int i) (.int j) H Q := ⟨_, _, pd_int, pd_int, by rw [← beq_dec] at q; simpa [PyData.eqv] using q⟩
theorem i_eqL {a b : Addr} {xs ys : List Int} (ha : SqL K H a (iL xs)) (hb : SqL K H b (iL ys)) (q : Q (.bl (decide (xs = ys))) H) : rEqP K (.ref a) (.ref b) H Q := ⟨_, _, pd_ints ha, pd_ints hb, by rw [eqv_pints]; exact q⟩
end

/-! ### + and * of more kinds, an item -/
def rAddP : R2 := fun x y H Q => rI0 (fun i j => .int (i + j)) x y H Q ∨ rCat x y H Q
def rIxP (K : PySem.W.Frag) : R2 := fun x y H Q => rIxL K x y H Q ∨ rIxT K x y H Q
def rMulP : R2 := fun x y H Q => rI CMul (fun i j => .int (i * j)) x y H Q ∨ rRep x y H Q
section
variable {X : Cx}
theorem op_addP : OpR X (binaryOp .Add) rAddP := op_add.or op_cat
theorem op_mulP : OpR X (binaryOp .Mult) rMulP := op_mul.or op_rep
theorem ix_P : IxR X (rIxP X.K) := ix_list.or ix_tup
end
section
variable {K : PySem.W.Frag} {σ : St} {H : Hp} {Q : VK}
theorem i_addI {i j : Int} (q : Q (.int (i + j)) H) : rAddP (.int i) (.int j) H Q := .inl ⟨i, j, rfl, rfl, q⟩
theorem i_addL {a b : Addr} {xs ys : List V} (ha : H a = some (.lst xs)) (hb : H b = some (.lst ys)) (hl : xs.length + ys.length ≤ sizeLine) (q : ∀ p, H p = none → Q (.ref p) (upd H p (.lst (xs ++ ys)))) : rAddP (.ref a) (.ref b) H Q := .inr ⟨a, b, xs, ys, rfl, rfl, ha, hb, hl, q⟩
theorem i_mulI {i j : Int} (c : CMul i j) (q : Q (.int (i * j)) H) : rMulP (.int i) (.int j) H Q := .inl ⟨i, j, rfl, rfl, c, q⟩
theorem atI_ints {ns : List Int} {i : Int} (h0 : 0 ≤ i) (h1 : i < ns.length) : ∃ v, atI (iL ns) i = some (.int v) ∧ ns[i.toNat]? = some v ∧ v ∈ ns := by
  have hl : i.toNat < ns.length := by omega
  refine ⟨ns[i.toNat], ?_, by simp [hl], List.getElem_mem hl⟩
  have := atI_nat (xs := iL ns) (j := i.toNat) (v := .int ns[i.toNat]) (by simp [iL, hl])
  rwa [Int.toNat_of_nonneg h0] at this
/-- an item of a list of iL, in bounds -/
theorem i_ixL {p : Addr} {ns : List Int} {i : Int} (h : SqL K H p (iL ns)) (h0 : 0 ≤ i) (h1 : i < ns.length) (q : ∀ v, ns[i.toNat]? = some v → v ∈ ns → Q (.int v) H) : rIxP K (.ref p) (.int i) H Q := by
  obtain ⟨v, e1, e2, e3⟩ := atI_ints h0 h1
  exact .inl ⟨p, _, i, _, rfl, rfl, h, e1, q v e2 e3⟩
/-- an item of any list, at a place from the front -/
theorem i_ixN {p : Addr} {xs : List V} {i : Int} {v : V} (h : SqL K H p xs) (h0 : 0 ≤ i) (e : xs[i.toNat]? = some v) (q : Q v H) : rIxP K (.ref p) (.int i) H Q := by
  have := atI_nat (xs := xs) (j := i.toNat) (v := v) e
  rw [Int.toNat_of_nonneg h0] at this
  exact .inl ⟨p, _, i, _, rfl, rfl, h, this, q⟩
theorem i_ixT {p : Addr} {xs : List V} {i : Int} {v : V} (h : SqT K H p xs) (h0 : 0 ≤ i) (e : xs[i.toNat]? = some v) (q : Q v H) : rIxP K (.ref p) (.int i) H Q := by
  have := atI_nat (xs := xs) (j := i.toNat) (v := v) e
  rw [Int.toNat_of_nonneg h0] at this
  exact .inr ⟨p, _, i, _, rfl, rfl, h, this, q⟩
end

/-! ### calls of the text's own defs -/
def Callee (P : Program) (w : World) (K : PySem.W.Frag) (mg : Str → Option Value) (base : Heap) (x : Str) (k : Nat) (sp : Sp) : Prop :=
  ∃ f fd ps, FnOk P w K mg base CX0 k f fd ps sp ∧ mg x = some (.ref f) ∧ PySem.W.keepIn K (.ref f) = true ∧ Binds K fd ps []
def Def (K : PySem.W.Frag) (mg : Str → Option Value) (x : Str) (st : Stmt) : Prop := ∃ f fd, Fun K x x st f fd ∧ mg x = some (.ref f)
section
variable {X : Cx} {x : Str} {k : Nat} {sp : Sp} {e : Expr} {es : List Expr} {t : TA} {p pos : Pos}
theorem pe_callN (C : Callee X.prog X.w X.K X.mg X.base x k sp) (hr : Room k X.A) (hg : Gl X x) (ha : PA X (e :: es) t)
    (he : starEach (e :: es) X.env = (false, eval e X.env) :: starEach es X.env := by rfl) (hpl : (backTo pos (starEach es X.env)).any (·.1) = false := by rfl)
    (hdb : (x == ("__debug__" : Str)) = false := by decide) : PE X (.Call (.Name x p) (e :: es) [] pos) (tCall sp [] E0 t) := by
  obtain ⟨f, fd, ps, F, hm, hk, hb⟩ := C
  exact pe_call F hr hg hm hk hb .nil pass0 ha (hdb := hdb) (he := he) (hpl := hpl)
def rTru (K : PySem.W.Frag) (x : V) (H : Hp) (Q : Bool → Hp → Prop) : Prop := ∃ k, TruV K x H k ∧ Q k H
def tTru (K : PySem.W.Frag) (ta : TE) : TT := fun σ H Q => ta σ H fun x H' => rTru K x H' Q
theorem pt_truthN {a : Expr} {ta : TE} (ha : PE X a ta) (he : ∀ whole, isTrue a X.env whole = (do let v ← whole; standAt a.pos; holding [v] (truthy v))) :
    PT X a (tTru X.K ta) := pt_truth ha he
end
theorem Def.ok {P : Program} {w : World} {K : PySem.W.Frag} {mg : Str → Option Value} {base : Heap} {x : Str} {st : Stmt} {N ps : List Str} {k : Nat} {sp : Sp} (D : Def K mg x st) (S : FnScope N ps (defScope st))
    (bd : ∀ (kV doc pm : Value) (an : Option Addr) (cdv ct : Value) (us : List Value), us.length = ps.length → bindArgs (PySem.W.fnOf x x (defArgs st) (defBody st) (defScope st) .none kV doc pm an cdv ct) ⟨us, []⟩ = pure (ps.zip us))
    (len : ∀ vs H Q E, sp vs H Q E → vs.length = ps.length)
    (hbody : ∀ (f : Addr) (cdv : Value) (A : Around) (outer : List Env) (s : Shared) (H : Hp) (vs : List V) (Q : VK) (E : XK), Room k (A.deeper (envOfC x (defScope st) s.heap.objs.size f cdv)) → sp vs H Q E →
      ∃ t, PSs (cxOf CX0 P w K mg base N x (defScope st) f cdv A outer s H E).nox (defBody st) t ∧ t { nx := fun _ H' => Q .non H', rt := Q } (start N vs) H) : Callee P w K mg base x (k + 1) sp := by
  obtain ⟨f, fd, F, hm⟩ := D
  exact ⟨f, fd, ps, F.ok S len fun cdv A outer s H vs Q E hr h => hbody f cdv A outer s H vs Q E hr h, hm, F.kp, F.binds bd⟩

/-! ### built-ins -/
def rLen (K : PySem.W.Frag) : List V → Hp → VK → Prop := fun xs H Q => ∃ x n, xs = [x] ∧ LenV K x H n ∧ Q (.int n) H
def rIsi (K : PySem.W.Frag) : List V → Hp → VK → Prop := fun xs H Q => ∃ x t n b, xs = [x, .ty n] ∧ TyOf K H x t ∧ PySem.W.kitOne K t (.type n) = some b ∧ Q (.bl b) H
def rIntOf : List V → Hp → VK → Prop := fun xs H Q => (∃ i, xs = [.int i] ∧ Q (.int i) H) ∨ ∃ k, xs = [.bl k] ∧ Q (.int (if k then 1 else 0)) H
def rAbs : List V → Hp → VK → Prop := fun xs H Q => ∃ i, xs = [.int i] ∧ Q (.int (if i < 0 then -i else i)) H
def rListOf (K : PySem.W.Frag) : List V → Hp → VK → Prop := fun xs H Q => ∃ p ys, xs = [.ref p] ∧ (SqL K H p ys ∨ SqT K H p ys) ∧ ∀ l, H l = none → Q (.ref l) (upd H l (.lst ys))
section
variable {X : Cx}
theorem call_lenN : CallR X (.builtin "len") (rLen X.K) := call_len
theorem call_intN : CallR X (.type "int") rIntOf := call_int1
theorem call_listN : CallR X (.type "list") (rListOf X.K) := call_list_of
end
section
variable {K : PySem.W.Frag} {σ : St} {H : Hp} {Q : VK}
theorem i_len {p : Addr} {xs : List V} (h : SqL K H p xs) (q : Q (.int xs.length) H) : rLen K [.ref p] H Q := ⟨_, _, rfl, .inl ⟨xs, h, rfl⟩, q⟩
theorem i_intB {k : Bool} (q : Q (.int (if k then 1 else 0)) H) : rIntOf [.bl k] H Q := .inr ⟨k, rfl, q⟩
theorem i_abs {i : Int} (q : Q (.int (if i < 0 then -i else i)) H) : rAbs [.int i] H Q := ⟨i, rfl, q⟩
theorem i_listL {p : Addr} {ys : List V} (h : SqL K H p ys) (q : ∀ l, H l = none → Q (.ref l) (upd H l (.lst ys))) : rListOf K [.ref p] H Q := ⟨p, ys, rfl, .inl h, q⟩
theorem isi_ii : PySem.W.kitOne K (.type "int") (.type "int") = some true := by kernel_rfl
theorem isi_ib : PySem.W.kitOne K (.type "int") (.type "bool") = some false := by kernel_rfl
theorem isi_ll : PySem.W.kitOne K (.type "list") (.type "list") = some true := by kernel_rfl
theorem isi_il : PySem.W.kitOne K (.type "int") (.type "list") = some false := by kernel_rfl
theorem isi_id : PySem.W.kitOne K (.type "int") (.type "dict") = some false := by kernel_rfl
theorem isi_it : PySem.W.kitOne K (.type "int") (.type "tuple") = some false := by kernel_rfl
theorem isi_bb : PySem.W.kitOne K (.type "bool") (.type "bool") = some true := by kernel_rfl
theorem i_isiII {i : Int} (q : Q (.bl true) H) : rIsi K [.int i, .ty "int"] H Q := ⟨_, _, _, true, rfl, .int i, isi_ii, q⟩
theorem i_isiIB {i : Int} (q : Q (.bl false) H) : rIsi K [.int i, .ty "bool"] H Q := ⟨_, _, _, false, rfl, .int i, isi_ib, q⟩
theorem i_isiIL {i : Int} (q : Q (.bl false) H) : rIsi K [.int i, .ty "list"] H Q := ⟨_, _, _, false, rfl, .int i, isi_il, q⟩
theorem i_isiID {i : Int} (q : Q (.bl false) H) : rIsi K [.int i, .ty "dict"] H Q := ⟨_, _, _, false, rfl, .int i, isi_id, q⟩
theorem i_isiIT {i : Int} (q : Q (.bl false) H) : rIsi K [.int i, .ty "tuple"] H Q := ⟨_, _, _, false, rfl, .int i, isi_it, q⟩
theorem i_isiBB {b : Bool} (q : Q (.bl true) H) : rIsi K [.bl b, .ty "bool"] H Q := ⟨_, _, _, true, rfl, .bl b, isi_bb, q⟩
end

/-! ### tests, sizes -/
theorem i_if {p : Prop} [Decidable p] {A B : Prop} (h1 : p → A) (h2 : ¬ p → B) : if decide p = true then A else B := by
  by_cases h : p
  · rw [decide_eq_true h]; exact iteT (h1 h)
  · rw [decide_eq_false h]; exact iteF (h2 h)
theorem i_ifn {p : Prop} [Decidable p] {A B : Prop} (h1 : ¬ p → A) (h2 : p → B) : if (!decide p) = true then A else B := by
  by_cases h : p
  · rw [decide_eq_true h]; exact iteF (h2 h)
  · rw [decide_eq_false h]; exact iteT (h1 h)
theorem i_ifb {b : Bool} {A B : Prop} (h1 : b = true → A) (h2 : b = false → B) : if b = true then A else B := by
  cases b
  · exact iteF (h2 rfl)
  · exact iteT (h1 rfl)
theorem iteNT {A B : Prop} (h : B) : if (!true) = true then A else B := iteF h
theorem iteNF {A B : Prop} (h : A) : if (!false) = true then A else B := iteT h
theorem i_ifnb {b : Bool} {A B : Prop} (h1 : b = false → A) (h2 : b = true → B) : if (!b) = true then A else B := by
  cases b
  · exact iteT (h1 rfl)
  · exact iteF (h2 rfl)
theorem szl {n : Nat} (h : n ≤ 100000) : n ≤ sizeLine := Nat.le_trans h (by rw [sizeLine_eq]; decide)
theorem szlt {n : Nat} (h : n ≤ 100000) : n < sizeLine := Nat.lt_of_le_of_lt h (by rw [sizeLine_eq]; decide)
theorem same_upd {H : Hp} {l : Addr} {o : HO} (h : H l = none) : Same H (upd H l o) := fun b u e => by rw [upd_ne (ne_of_none e h)]; exact e
/-- all but one address as it was -/
def SameBut (l : Addr) (H H' : Hp) : Prop := ∀ b o, b ≠ l → H b = some o → H' b = some o
theorem cmul_l {i j : Int} (h1 : -(2 ^ 64) < i) (h2 : i < 2 ^ 64) : CMul i j := .inl ⟨h1, h2⟩
theorem cmul_r {i j : Int} (h1 : -(2 ^ 64) < j) (h2 : j < 2 ^ 64) : CMul i j := .inr ⟨h1, h2⟩
end L2

namespace L2
open PySem PySem.Spec PyProof.Rows
theorem bt_int : bootBuiltins "int" = some (.type "int") := by first | exact PySem.boot_int | exact PySem.Pv.boot_int | exact PyProof.Rows.boot_int
theorem bt_list : bootBuiltins "list" = some (.type "list") := by first | exact PySem.boot_list | exact PySem.Pv.boot_list | exact PyProof.Rows.boot_list
theorem bt_isinstance : bootBuiltins "isinstance" = some (.builtin "isinstance") := by first | exact PySem.boot_isinstance | exact PySem.Pv.boot_isinstance | exact PyProof.Rows.boot_isinstance
theorem bt_min : bootBuiltins "min" = some (.builtin "min") := by first | exact PySem.boot_min | exact PySem.Pv.boot_min | exact PyProof.Rows.boot_min
theorem bt_max : bootBuiltins "max" = some (.builtin "max") := by first | exact PySem.boot_max | exact PySem.Pv.boot_max | exact PyProof.Rows.boot_max
theorem bt_sum : bootBuiltins "sum" = some (.builtin "sum") := by first | exact PySem.boot_sum | exact PySem.Pv.boot_sum | exact PyProof.Rows.boot_sum
theorem bt_len : bootBuiltins "len" = some (.builtin "len") := by first | exact PySem.boot_len | exact PySem.Pv.boot_len | exact PyProof.Rows.boot_len
section
variable {X : Cx} {pos p1 p2 : Pos} {k1 k2 : Nat}
theorem pe_powK {i j r : Int} (h : 0 ≤ j ∧ j ≤ 1000000 ∧ i.natAbs < 2 ^ 64 ∧ i ^ j.toNat = r) : PE X (.BinOp (.Constant (.int i) k1 p1) .Pow (.Constant (.int j) k2 p2) pos) (tC (.int r)) := by
  intro pins s σ H Q I q
  refine pe_op op_pow pe_int pe_int pins s σ H Q I ?_
  exact ⟨i, j, rfl, rfl, ⟨h.1, h.2.1, h.2.2.1⟩, by have e := h.2.2.2; subst e; exact q⟩
theorem pe_negK {i r : Int} (h : -i = r) : PE X (.UnaryOp .USub (.Constant (.int i) k1 p1) pos) (tC (.int r)) := by
  intro pins s σ H Q I q
  refine pe_un un_neg pe_int pins s σ H Q I ?_
  exact ⟨i, rfl, by subst h; exact q⟩
end
section
variable {K : PySem.W.Frag} {σ : St} {H : Hp} {Q : VK} {i j : Int}
theorem i_div (h0 : 0 < j) (h1 : j < 1073741824) (q : Q (.int (i / j)) H) : rI CDiv (fun i j => .int (i / j)) (.int i) (.int j) H Q := ⟨i, j, rfl, rfl, ⟨h0, h1⟩, q⟩
theorem i_mod (h0 : 0 < j) (q : Q (.int (i % j)) H) : rI (fun _ j => 0 < j) (fun i j => .int (i % j)) (.int i) (.int j) H Q := ⟨i, j, rfl, rfl, h0, q⟩
theorem i_app {l : Addr} {xs : List V} {y : V} (h : H l = some (.lst xs)) (hl : xs.length < sizeLine) (q : Q .non (upd H l (.lst (xs ++ [y])))) : rAppend (.ref l) [y] H Q := ⟨l, xs, y, rfl, rfl, h, hl, q⟩
end
end L2

namespace L2
open PySem PySem.Spec PyProof.Rows
/-! ### loops, kept folded -/
def LoopI (J : It) (g : TG) (tb : TS) (D : Ends) (σ : St) (H1 : Hp) : Prop := ∃ W : Nat → Nat → St → Hp → Prop, (∃ m, W 0 m σ H1) ∧ ∀ i m σ H, W i m σ H →
  (J.stop i H ∧ D.nx σ H) ∨ (J.go i H ∧ ∃ N : St → Hp → Prop, (∀ σ' H', N σ' H' → ∃ m', m' < m ∧ W (i + 1) m' σ' H') ∧ ∀ x H', J.yld i H x H' → g x σ H' fun σ2 H2 => tb { D with nx := N, ct := N, bk := D.nx } σ2 H2)
theorem tFor_eq (wi : TI) (g : TG) (tb : TS) : tFor wi g tb = fun D σ H => wi σ H fun J H1 => LoopI J g tb D σ H1 := rfl
theorem lp_list {K : PySem.W.Frag} {a : Addr} {xs : List V} {g : TG} {tb : TS} {D : Ends} {σ : St} {H : Hp} (Pv : Nat → St → Hp → Prop) (h0 : Pv 0 σ H) (hl : ∀ i σ H, i ≤ xs.length → Pv i σ H → SqL K H a xs)
    (hs : ∀ i x σ H, xs[i]? = some x → Pv i σ H → g x σ H fun σ2 H2 => tb { D with nx := Pv (i + 1), ct := Pv (i + 1), bk := D.nx } σ2 H2) (hd : ∀ σ H, Pv xs.length σ H → D.nx σ H) : LoopI (Itl K a) g tb D σ H := for_list Pv h0 hl hs hd
theorem lp_ints {K : PySem.W.Frag} {a : Addr} {ns : List Int} {g : TG} {tb : TS} {D : Ends} {σ : St} {H : Hp} (Pv : Nat → St → Hp → Prop) (h0 : Pv 0 σ H) (hl : ∀ i σ H, i ≤ ns.length → Pv i σ H → SqL K H a (iL ns))
    (hs : ∀ i x σ H, ns[i]? = some x → Pv i σ H → g (.int x) σ H fun σ2 H2 => tb { D with nx := Pv (i + 1), ct := Pv (i + 1), bk := D.nx } σ2 H2) (hd : ∀ σ H, Pv ns.length σ H → D.nx σ H) : LoopI (Itl K a) g tb D σ H := by
  have e : (iL ns).length = ns.length := by simp [iL]
  refine for_list (xs := iL ns) Pv h0 (fun i σ H h p => hl i σ H (by rw [e] at h; exact h) p) (fun i x σ H hx p => ?_) (fun σ H p => hd σ H (by rw [e] at p; exact p))
  rw [List.getElem?_map] at hx
  cases q : ns[i]? with
  | none => rw [q] at hx; cases hx
  | some z =>
    rw [q] at hx
    cases hx
    exact hs i z σ H q p
theorem lp_range {lo : Int} {n : Nat} {g : TG} {tb : TS} {D : Ends} {σ : St} {H : Hp} (Pv : Nat → St → Hp → Prop) (h0 : Pv 0 σ H)
    (hs : ∀ i σ H, i < n → Pv i σ H → g (.int (lo + i)) σ H fun σ2 H2 => tb { D with nx := Pv (i + 1), ct := Pv (i + 1), bk := D.nx } σ2 H2) (hd : ∀ σ H, Pv n σ H → D.nx σ H) : LoopI (Itr lo n) g tb D σ H := for_range Pv h0 hs hd
theorem i_truB {K : PySem.W.Frag} {b : Bool} {H : Hp} {Q : Bool → Hp → Prop} (q : Q b H) : rTru K (.bl b) H Q := ⟨b, rfl, q⟩
end L2

namespace L2
open PySem PySem.Spec PyProof.Rows
/-! ### [a, b, ..][i]: the list is not tracked -/
def rMenu (xs : List V) (y : V) (H : Hp) (Q : VK) : Prop := ∃ i v, y = .int i ∧ atI xs i = some v ∧ Q v H
def tMenu (t : TA) (ti : TE) : TE := fun σ H Q => t σ H fun xs H1 => xs.length ≤ sizeLine ∧ ti σ H1 fun y H2 => rMenu xs y H2 Q
section
variable {X : Cx} {es : List Expr} {b : Expr} {t : TA} {tb : TE} {p1 pos : Pos}
theorem item_raw {X : Cx} {value slice : Expr} {pins : List (Addr × Obj)} {s : Shared} {σ : St} {H : Hp} {p : Addr} {its : List Value} {xs : List V} {i : Int} {tk : Tok} {z : V} {Q : VK} (I : Inv X pins σ H s) (r : Vals xs its) (hz : xs.length ≤ sizeLine)
    (pl : s.heap.IsList p its.toArray) (he : atI xs i = some z) (q : Q z H) (hs : subscripted slice false (.ref p) (.int i tk) = operate [.ref p, .int i tk] (getItem (.ref p) (.int i tk))) :
    wpAny (model X.prog X.w) X.A (subscriptTail value slice (.ref p) (.int i tk)) (EP X pins σ Q) X.xe s := by
  obtain ⟨j, h1, h2, h3, h4, h5⟩ := atI_get he
  obtain ⟨w, ew, rw'⟩ := r.get h2
  have hl := r.length
  have hn := line63
  have fin : EP X pins σ Q w s := ⟨z, H, I, rw', q⟩
  by_cases h0 : 0 ≤ i
  · have hj : i.toNat = j := by
      rw [seqIndex_of h0 h5] at h1
      exact Option.some.inj h1
    exact item_listR pl h0 (by omega) (by rw [hj]; simpa using ew) fin hs
  · have hj : (i + (its.toArray.size : Int)).toNat = j := by
      rw [seqIndex_neg (by omega) h4] at h1
      rw [List.size_toArray, ← hl]
      exact Option.some.inj h1
    exact subscriptTail_builtinR (x := w) pl.typeIs slot_list_getitem.lookup
      (wpAny_getItem_list_neg (Q := fun r s' => r = w ∧ EP X pins σ Q r s') pl (by omega) (by rw [List.size_toArray] <;> omega) (by omega) (by rw [hj]; simpa using ew) ⟨rfl, fin⟩) hs
theorem pe_menu (h : PA X es t) (hb : PE X b tb) (hs : PlainIx b) : PE X (.Subscript (.List es p1) b pos) (tMenu t tb) := by
  intro pins s σ H Q I hq
  refine Subscript_ (wpAny_List_spliced (thn (h p1 pins s σ H _ I hq) fun us s1 ⟨xs, H1, I1, r, z, q⟩ => ⟨by rw [← r.length]; exact z, ?_⟩))
  have hf : H1 s1.heap.objs.size = none := I1.hok.fresh (Nat.le_refl _)
  have I2 := I1.kept (t' := s1.toks) (h' := s1.heap.push { cls := .type "list", data := .seq us.toArray 0 }) (fun b u e => Heap.get?_push_of_some _ e)
  have I3 := I2.pins_of (pins' := pins ++ [(s1.heap.objs.size, { cls := .type "list", data := .seq us.toArray 0 })]) (fun p hp => by
    rcases List.mem_append.mp hp with hp | hp
    · exact I2.pin p (List.mem_append_right _ hp)
    · have e : p = (s1.heap.objs.size, ({ cls := .type "list", data := .seq us.toArray 0 } : Obj)) := by simpa using hp
      subst e
      refine ⟨Heap.get?_push_size _ rfl, hf, Nat.ne_of_gt I1.lt, I1.nofs (Nat.le_refl _), fun v e => ?_⟩
      have e' : Data.seq us.toArray 0 = Data.cell v := e
      cases e')
  refine thn (hb _ _ σ H1 _ I3 q) fun u s2 ⟨y, H2, I4, r4, i, v, hy, hv, qq⟩ => ?_
  subst hy
  obtain ⟨tk, rfl⟩ := r4
  have pn := (I4.pin (s1.heap.objs.size, { cls := .type "list", data := .seq us.toArray 0 }) (by simp)).1
  exact item_raw I4.unpinned r z ⟨_, pn, rfl, _, rfl⟩ hv qq (hs _ _)
end
section
variable {H : Hp} {Q : VK} {i : Int}
theorem i_menu2 {xa xb : Int} (h0 : 0 ≤ i) (h1 : i < 2) (q : ∀ z, (i = 0 ∧ z = xa) ∨ (i = 1 ∧ z = xb) → Q (.int z) H) : rMenu [.int xa, .int xb] (.int i) H Q := by
  have hi : i = 0 ∨ i = 1 := by omega
  rcases hi with h | h
  · subst h; exact ⟨0, _, rfl, rfl, q _ (by simp)⟩
  · subst h; exact ⟨1, _, rfl, rfl, q _ (by simp)⟩
end
theorem cxOf_K (CX : CXT) (P : Program) (w : World) (K : PySem.W.Frag) (mg : Str → Option Value) (base : Heap) (N : List Str) (qual : Str) (scope : Scope) (f : Addr) (cd : Value) (A : Around) (outer : List Env) (s : Shared) (H : Hp) (E : XK) : (cxOf CX P w K mg base N qual scope f cd A outer s H E).K = K := rfl
end L2

namespace L2
open PySem PySem.Spec PyProof.Rows
/-! ### a statement with a word behind it: what follows is read once -/
def tJoin (t u : TS) : TS := fun D σ H => ∃ Pj : St → Hp → Prop, t { D with nx := Pj } σ H ∧ ∀ σ' H', Pj σ' H' → u D σ' H'
theorem pss_join {X : Cx} {st : Stmt} {rest : List Stmt} {t u : TS} (h1 : PS X st t) (h2 : PSs X rest u) : PSs X (st :: rest) (tJoin t u) := by
  intro pins s σ H D I h
  obtain ⟨Pj, ht, hu⟩ := h
  refine wpAny_execs_cons (thn (h1 pins s σ H _ I ht) fun f s1 q => ?_)
  cases f with
  | next =>
    obtain ⟨σ1, H1, I1, q1⟩ := q
    exact h2 pins s1 σ1 H1 D I1 (hu _ _ q1)
  | brk => exact q
  | cont => exact q
  | ret u => exact q
end L2

namespace L2
open PySem PySem.Spec PyProof.Rows
/-! ### slices of lists of ints -/
theorem take_min {α : Type} (xs : List α) (k : Nat) : xs.take (min k xs.length) = xs.take k := by
  by_cases h : k ≤ xs.length
  · rw [Nat.min_eq_left h]
  · rw [Nat.min_eq_right (by omega), List.take_of_length_le (by omega), List.take_of_length_le (by omega)]
theorem drop_min {α : Type} (xs : List α) (k : Nat) : xs.drop (min k xs.length) = xs.drop k := by
  by_cases h : k ≤ xs.length
  · rw [Nat.min_eq_left h]
  · rw [Nat.min_eq_right (by omega), List.drop_of_length_le (by omega), List.drop_of_length_le (by omega)]
theorem sIx_pos (n d : Nat) {b : Int} (h : 0 ≤ b) : HT.sIx n d (some b) = min b.toNat n := by
  have := HT.sIx_nat n d b.toNat
  rwa [Int.toNat_of_nonneg h] at this
theorem cut_to {xs : List V} {b : Int} (h : 0 ≤ b) : cutV xs none (some b) = xs.take b.toNat := by
  unfold cutV
  rw [HT.sIx_none, sIx_pos _ _ h, Nat.sub_zero, List.drop_zero, take_min]
theorem cut_mid {xs : List V} {a b : Int} (h : 0 ≤ a) (h2 : 0 ≤ b) : cutV xs (some a) (some b) = (xs.drop a.toNat).take (b.toNat - a.toNat) := by
  unfold cutV
  rw [sIx_pos _ _ h, sIx_pos _ _ h2, drop_min]
  by_cases e : b.toNat ≤ xs.length
  · by_cases e2 : a.toNat ≤ xs.length
    · rw [Nat.min_eq_left e, Nat.min_eq_left e2]
    · rw [List.drop_of_length_le (by omega)]; simp
  · rw [Nat.min_eq_right (by omega)]
    by_cases e2 : a.toNat ≤ xs.length
    · rw [Nat.min_eq_left e2, List.take_of_length_le (by rw [List.length_drop]; omega), List.take_of_length_le (by rw [List.length_drop]; omega)]
    · rw [List.drop_of_length_le (by omega)]; simp
section
variable {K : PySem.W.Frag} {H : Hp} {Q : VK} {a : Addr} {ns : List Int}
theorem i_slTo {b : Int} (h : SqL K H a (iL ns)) (hb : 0 ≤ b) (q : ∀ p, H p = none → Q (.ref p) (upd H p (.lst (iL (ns.take b.toNat))))) : rSlL K (.ref a) none (some b) H Q :=
  ⟨a, _, rfl, h, fun p hp => by rw [cut_to hb, ← List.map_take]; exact q p hp⟩
theorem i_slMid {b c : Int} (h : SqL K H a (iL ns)) (hb : 0 ≤ b) (hc : 0 ≤ c) (q : ∀ p, H p = none → Q (.ref p) (upd H p (.lst (iL ((ns.drop b.toNat).take (c.toNat - b.toNat)))))) : rSlL K (.ref a) (some b) (some c) H Q :=
  ⟨a, _, rfl, h, fun p hp => by rw [cut_mid hb hc, ← List.map_drop, ← List.map_take]; exact q p hp⟩
end
end L2

set_option Elab.async false
set_option linter.all false
set_option maxRecDepth 100000
namespace L2
open PySem PySem.Spec PyProof.Rows

/-! ### an untracked list of ours is tracked from now on -/
theorem Inv.track {X : Cx} {pins : List (Addr × Obj)} {σ : St} {H : Hp} {s : Shared} {D : Addr} {o : HO} (I : Inv X pins σ H s) (hn : H D = none) (hL : D ≠ X.env.locals) (h1 : X.s₀.heap.objs.size ≤ D)
    (h2 : ∀ x c, X.env.cells.lookup x = some c → c ≠ D) (h3 : ∀ p ∈ X.pn ++ pins, p.1 ≠ D) (new : ObjOk X.prog X.w (upd H D o) s.heap D o) : Inv X pins σ (upd H D o) s := by
  have up : ∀ b u, H b = some u → upd H D o b = some u := fun b u e => by rw [upd_ne (ne_of_none e hn)]; exact e
  have un : ∀ b, b ≠ D → H b = none → upd H D o b = none := fun b hb e => by rw [upd_ne hb]; exact e
  refine ⟨I.ok, I.os, I.bare, ⟨I.base.keep, I.base.slot, fun b ob e n hx => un b (Nat.ne_of_lt (Nat.lt_of_lt_of_le (Heap.lt_size e) h1)) (I.base.free b ob e n hx), I.base.there, fun b xs e => up _ _ (I.base.tups b xs e), fun b ob u e => up _ _ (I.base.frzs b ob u e), fun b ps e => ?_⟩,
    I.loc, I.cell, un _ (Ne.symm hL) I.free, fun x c e => un _ (h2 x c e) (I.freeC x c e), fun p hp => ?_, fun b u e => ?_, I.len⟩
  · obtain ⟨m, e'⟩ := I.base.tbls b ps e
    exact ⟨m, up _ _ e'⟩
  · obtain ⟨e, n, r⟩ := I.pin p hp
    exact ⟨e, un _ (h3 p hp) n, r⟩
  · by_cases hb : b = D
    · subst hb
      rw [upd_same] at e
      cases e
      exact new
    · rw [upd_ne hb] at e
      exact (I.hok b u e).stay (fun _ _ _ q => q) (fun c q => up _ _ q) fun c xs q => up _ _ q

/-! ### the closure of a comprehension's block -/
def clOf (env : Env) : List (Str × NameKind) → List (Str × Addr) → List (Str × Addr)
  | [], acc => acc
  | (n, k) :: r, acc => clOf env r (if (k == .free) = true then (n, (env.cells.lookup n).getD 0) :: acc else acc)
theorem closure_go {env : Env} : ∀ (names : List (Str × NameKind)) (acc : List (Str × Addr)), (∀ y ∈ names, y.2 = .free → ∃ c, env.cells.lookup y.1 = some c) →
    (forIn names acc fun (x : Str × NameKind) (r : List (Str × Addr)) => match x with
      | (name, kind) => if (kind == .free) = true then do
          let a ← cellOf env name
          pure (ForInStep.yield ((name, a) :: r))
        else pure (ForInStep.yield r) : Sem (List (Str × Addr))) = pure (clOf env names acc)
  | [], acc, _ => rfl
  | (n, k) :: r, acc, h => by
    rw [List.forIn_cons, clOf]
    by_cases hk : (k == NameKind.free) = true
    · obtain ⟨c, hc⟩ := h (n, k) (List.mem_cons_self) (by simpa using hk)
      have hc' : env.cells.lookup n = some c := hc
      simp only [hk, if_true, cellOf, hc', Option.getD_some]
      exact closure_go r _ fun y hy => h y (List.mem_cons_of_mem _ hy)
    · simp only [hk, Bool.false_eq_true, if_false]
      exact closure_go r _ fun y hy => h y (List.mem_cons_of_mem _ hy)
theorem closure_eq {env : Env} {scope : Scope} (h : ∀ y ∈ scope.names, y.2 = .free → ∃ c, env.cells.lookup y.1 = some c) : closureFor scope env = pure (clOf env scope.names []) := by
  have q := closure_go scope.names [] h
  unfold closureFor
  exact (congrArg (fun z => z >>= fun r => pure r) q).trans rfl
theorem clOf_get {env : Env} {x : Str} {c : Addr} : ∀ (names : List (Str × NameKind)) (acc : List (Str × Addr)), (∀ y ∈ names, y.2 = .free → ∃ c, env.cells.lookup y.1 = some c) → (∀ x c, acc.lookup x = some c → env.cells.lookup x = some c) →
    (clOf env names acc).lookup x = some c → env.cells.lookup x = some c
  | [], acc, _, ha, e => ha x c e
  | (n, k) :: r, acc, h, ha, e => by
    rw [clOf] at e
    refine clOf_get r _ (fun y hy => h y (List.mem_cons_of_mem _ hy)) ?_ e
    intro y d hd
    by_cases hk : (k == NameKind.free) = true
    · rw [if_pos hk] at hd
      obtain ⟨c', hc⟩ := h (n, k) List.mem_cons_self (by simpa using hk)
      have hc' : env.cells.lookup n = some c' := hc
      rw [List.lookup_cons] at hd
      cases hy : y == n with
      | true =>
        rw [hy] at hd
        have e1 : y = n := by simpa using hy
        subst e1
        rw [hc'] at hd ⊢
        exact hd
      | false =>
        rw [hy] at hd
        exact ha y d hd
    · rw [if_neg hk] at hd
      exact ha y d hd
theorem clOf_has {env : Env} {x : Str} : ∀ (names : List (Str × NameKind)) (acc : List (Str × Addr)), ((x, NameKind.free) ∈ names ∨ ∃ c, acc.lookup x = some c) → ∃ c, (clOf env names acc).lookup x = some c
  | [], acc, h => by
    rcases h with h | h
    · exact absurd h (by simp)
    · exact h
  | (n, k) :: r, acc, h => by
    rw [clOf]
    refine clOf_has r _ ?_
    rcases h with h | ⟨c, h⟩
    · rcases List.mem_cons.mp h with e | e
      · cases e
        exact .inr ⟨_, by rw [if_pos (by rfl), List.lookup_cons, beq_self_eq_true]⟩
      · exact .inl e
    · refine .inr ?_
      by_cases hk : (k == NameKind.free) = true
      · rw [if_pos hk, List.lookup_cons]
        cases x == n with
        | true => exact ⟨_, rfl⟩
        | false => exact ⟨c, h⟩
      · rw [if_neg hk]; exact ⟨c, h⟩
/-- what a relabelled scope says of a name -/
theorem relabel_get {scope : Scope} {env : Env} {x : Str} {k : NameKind} (h : (relabel scope env).names.lookup x = some k) : (x, k) ∈ scope.names ∨ (k = .cell ∧ (x, NameKind.free) ∈ scope.names) := by
  have m := PySem.mem_of_lookup h
  unfold relabel at m
  obtain ⟨⟨n, k0⟩, hm, e⟩ := List.mem_map.mp m
  dsimp only at e
  split at e
  · rename_i hc
    cases e
    have : k0 = .free := by
      have := (Bool.and_eq_true _ _ ▸ (Bool.and_eq_true _ _ ▸ hc).1 : _ ∧ _).1
      simpa using this
    subst this
    exact .inr ⟨rfl, hm⟩
  · cases e
    exact .inl hm

theorem relabel_freeN {env : Env} : ∀ {names : List (Str × NameKind)} {x : Str}, names.lookup x = some .free →
    (names.map fun (n, k) => if (k == NameKind.free && env.scope.kind == .function && env.kindOf n == some .cell) then (n, NameKind.cell) else (n, k)).lookup x = some .cell ∨
    (names.map fun (n, k) => if (k == NameKind.free && env.scope.kind == .function && env.kindOf n == some .cell) then (n, NameKind.cell) else (n, k)).lookup x = some .free
  | [], _, h => by simp at h
  | (n, k) :: r, x, h => by
    have ih := @relabel_freeN env r x
    show List.lookup x ((if (k == NameKind.free && env.scope.kind == .function && env.kindOf n == some .cell) = true then (n, NameKind.cell) else (n, k)) :: _) = _ ∨ List.lookup x ((if (k == NameKind.free && env.scope.kind == .function && env.kindOf n == some .cell) = true then (n, NameKind.cell) else (n, k)) :: _) = _
    cases hx : x == n with
    | true =>
      simp only [List.lookup_cons, hx] at h
      cases h
      by_cases hc : (NameKind.free == NameKind.free && env.scope.kind == .function && env.kindOf n == some .cell) = true
      · rw [if_pos hc]; left; simp [List.lookup_cons, hx]
      · rw [if_neg hc]; right; simp [List.lookup_cons, hx]
    | false =>
      simp only [List.lookup_cons, hx] at h
      by_cases hc : (k == NameKind.free && env.scope.kind == .function && env.kindOf n == some .cell) = true
      · rw [if_pos hc]; simp only [List.lookup_cons, hx]; exact ih h
      · rw [if_neg hc]; simp only [List.lookup_cons, hx]; exact ih h
theorem relabel_free {scope : Scope} {env : Env} {x : Str} (h : scope.names.lookup x = some .free) : (relabel scope env).names.lookup x = some .cell ∨ (relabel scope env).names.lookup x = some .free := relabel_freeN h

/-! ### the block's context -/
def cxC (X : Cx) (scope : Scope) (C : Addr) (N : List Str) (s₂ : Shared) (H₂ : Hp) (ex : List Addr) : Cx :=
  { X with N := N, s₀ := s₂, H₀ := H₂, env := compEnvC scope (clOf X.env scope.names []) C X.env, outer := X.stack, stack := X.stack, ex := ex, fn := fun _ => false, pn := [], xe := fun _ _ => False }
/-- the names: a slot of the def's for each that is free in the block -/
def FrOk (X : Cx) (scope : Scope) : List Str → List (Option Nat) → Prop
  | [], [] => True
  | _ :: N, none :: fr => FrOk X scope N fr
  | x :: N, some j :: fr => (X.N[j]? = some x ∧ (X.env.kindOf x = some .cell ∨ X.env.kindOf x = some .free) ∧ scope.names.lookup x = some .free) ∧ FrOk X scope N fr
  | _, _ => False
def stC (fr : List (Option Nat)) (σ : St) : St := fr.map fun o => o.bind fun j => (σ[j]?).join
structure CompOk (X : Cx) (scope : Scope) (N : List Str) (fr : List (Option Nat)) : Prop where
  kind : scope.kind = .function
  ncell : ∀ y ∈ scope.names, y.2 ≠ .cell
  names : ∀ y ∈ scope.names, y.2 = .local → scope.names.lookup y.1 = some .local
  frees : ∀ y ∈ scope.names, y.2 = .free → X.env.kindOf y.1 = some .cell ∨ X.env.kindOf y.1 = some .free
  fr : FrOk X scope N fr
theorem FrOk.len {X : Cx} {scope : Scope} : ∀ {N : List Str} {fr : List (Option Nat)}, FrOk X scope N fr → fr.length = N.length
  | [], [], _ => rfl
  | _ :: N, none :: fr, h => by simp [FrOk.len (N := N) (fr := fr) h]
  | _ :: N, some j :: fr, h => by simp [FrOk.len (N := N) (fr := fr) h.2]
  | [], _ :: _, h => h.elim
  | _ :: _, [], h => h.elim
theorem FrOk.get {X : Cx} {scope : Scope} : ∀ {N : List Str} {fr : List (Option Nat)} {i j : Nat} {x : Str}, FrOk X scope N fr → N[i]? = some x → fr[i]? = some (some j) → X.N[j]? = some x ∧ (X.env.kindOf x = some .cell ∨ X.env.kindOf x = some .free) ∧ scope.names.lookup x = some .free
  | [], _, i, j, x, h, e, _ => by simp at e
  | y :: N, [], _, _, _, h, _, _ => h.elim
  | y :: N, none :: fr, 0, j, x, h, e, e2 => by simp at e2
  | y :: N, none :: fr, i + 1, j, x, h, e, e2 => FrOk.get (N := N) (fr := fr) (i := i) h (by simpa using e) (by simpa using e2)
  | y :: N, some k :: fr, 0, j, x, h, e, e2 => by
    simp at e e2
    subst e e2
    exact h.1
  | y :: N, some k :: fr, i + 1, j, x, h, e, e2 => FrOk.get (N := N) (fr := fr) (i := i) h.2 (by simpa using e) (by simpa using e2)
theorem stC_get {fr : List (Option Nat)} {σ : St} {i : Nat} {v : V} (h : (stC fr σ)[i]? = some (some v)) : ∃ j, fr[i]? = some (some j) ∧ σ[j]? = some (some v) := by
  unfold stC at h
  rw [List.getElem?_map] at h
  cases e : fr[i]? with
  | none => rw [e] at h; cases h
  | some o =>
    rw [e] at h
    cases o with
    | none => cases h
    | some j =>
      refine ⟨j, rfl, ?_⟩
      have h' : (σ[j]?).join = some v := by simpa using h
      cases e2 : σ[j]? with
      | none => rw [e2] at h'; cases h'
      | some w => rw [e2] at h'; cases w with
        | none => cases h'
        | some z => cases h'; rfl
section
variable {X : Cx} {scope : Scope} {N : List Str} {fr : List (Option Nat)}
theorem CompOk.cells (c : CompOk X scope N fr) (ok : X.Ok) : ∀ y ∈ scope.names, y.2 = .free → ∃ c, X.env.cells.lookup y.1 = some c := fun y hy e => ok.has y.1 (c.frees y hy e)
theorem CompOk.get (c : CompOk X scope N fr) (ok : X.Ok) {x : Str} {a : Addr} (h : (clOf X.env scope.names []).lookup x = some a) : X.env.cells.lookup x = some a :=
  clOf_get scope.names [] (c.cells ok) (fun _ _ z => by simp at z) h
theorem comp_ok {pins : List (Addr × Obj)} {σ : St} {H : Hp} {s₂ : Shared} {C : Addr} {fp : List Addr} (c : CompOk X scope N fr) (I : Inv X pins σ H s₂) (hC : s₂.heap.objs.size ≤ C) (hfp : ∀ b ∈ fp, FpOk X pins H b ∧ b < s₂.heap.objs.size) :
    (cxC X scope C N s₂ H fp).Ok where
  mod := I.ok.mod
  kind := c.kind
  glob := I.ok.glob
  blt := I.ok.blt
  above := hC
  inj := fun x y a h1 h2 => I.ok.inj x y a (c.get I.ok h1) (c.get I.ok h2)
  has := fun x h => by
    have hm : (x, NameKind.free) ∈ scope.names := by
      rcases h with h | h
      · rcases relabel_get h with z | ⟨_, z⟩
        · exact absurd rfl (c.ncell _ z)
        · exact z
      · rcases relabel_get h with z | ⟨z, _⟩
        · exact z
        · cases z
    exact clOf_has scope.names [] (.inl hm)
  cab := fun x a h => by cases h
  hd := I.ok.hd
  frames := I.ok.frames
  stk := .inl rfl
  exf := fun b hb => ⟨Nat.ne_of_lt (Nat.lt_of_lt_of_le (hfp b hb).2 hC), fun x a h => (hfp b hb).1.2.2.2.2.1 x a (c.get I.ok h)⟩
  bs := I.bs
  bsz := Nat.le_trans I.ok.bsz I.sz
  noex := fun b o e hb => by
    rcases (hfp b hb).1.2.2.2.1 with z | z
    · exact I.ok.noex b o e z
    · have h1 : b < X.base.objs.size := Heap.lt_size e
      have h2 := I.ok.bsz
      exact absurd (Nat.lt_of_lt_of_le h1 (Nat.le_trans h2 z)) (Nat.lt_irrefl _)
  exfs := fun b hb z => by
    rcases List.mem_cons.mp (I.stkSub b z) with e | e
    · exact (hfp b hb).1.2.1 e
    · exact (hfp b hb).1.2.2.1 e
  funs := I.stack
  frf := I.stkFree
theorem comp_inv {pins : List (Addr × Obj)} {σ : St} {H : Hp} {s₂ : Shared} {C : Addr} {fp : List Addr} {h₄ : Heap} {tk : Nat} (c : CompOk X scope N fr) (I : Inv X pins σ H s₂) (hC : s₂.heap.objs.size ≤ C) (hfp : ∀ b ∈ fp, FpOk X pins H b ∧ b < s₂.heap.objs.size)
    (hk : ∀ b o, s₂.heap.get? b = some o → h₄.get? b = some o) (hn : h₄.Ns C fun _ => none) : Inv (cxC X scope C N s₂ H fp) [] (stC fr σ) H { s₂ with heap := h₄, toks := tk } := by
  refine ⟨comp_ok c I hC hfp, rfl, I.bare, Un.kept hk, ⟨_, hn, fun i x v e1 e2 e3 => ?_⟩, fun x a e => ?_, I.hok.fresh hC, fun x a e => I.freeC x a (c.get I.ok e), fun p hp => absurd (show p ∈ ([] : List (Addr × Obj)) from hp) (by simp), I.hok.kept hk, ?_⟩
  · obtain ⟨j, f1, f2⟩ := stC_get e2
    obtain ⟨g1, g2, g3⟩ := c.fr.get e1 f1
    obtain ⟨m, hm, hl⟩ := I.loc
    have vis : Vis X.env.scope x := by
      rcases g2 with g | g
      · exact .inr (.inl g)
      · exact .inr (.inr g)
    obtain ⟨u, ru, lk⟩ := hl j x v g1 f2 vis
    refine ⟨u, ru, ?_⟩
    rcases lk with ⟨k, _⟩ | ⟨_, a, ea, o, ho, hd⟩
    · rcases g2 with g | g <;> (rw [k] at g; cases g)
    · obtain ⟨a', ea'⟩ := clOf_has (env := X.env) scope.names [] (.inl (PySem.mem_of_lookup g3))
      have e5 := c.get I.ok ea'
      rw [ea] at e5
      cases e5
      have kd : (cxC X scope C N s₂ H fp).env.kindOf x = some .cell ∨ (cxC X scope C N s₂ H fp).env.kindOf x = some .free := relabel_free g3
      exact .inr ⟨kd, a, ea', o, hk _ _ ho, hd⟩
  · obtain ⟨v, o, ho, hd⟩ := I.cell x a (c.get I.ok e)
    exact ⟨v, o, hk _ _ ho, hd⟩
  · unfold stC
    rw [List.length_map]
    exact c.fr.len
end

section
variable {prog : Program} {w : World} {A : Around} {E : Value → Shared → Prop} {R : Result → Shared → Prop} {s : Shared}
/-- a turn of the block's loop, whatever the target is -/
theorem compLoop_any {elt target iter : Expr} {ifs : List Expr} {scope : Scope} {pos : Pos} {it acc : Value} {env : Env} (I : Nat → Shared → Prop)
    (turn : ∀ n s, I n s → wpAny (model prog w) A (pyNext it) (fun r s₁ => match r with
      | none => R (.ok .next) s₁
      | some v => wpAny (model prog w) A (letOwnedTupleGo target it v) (fun _ s₀ => wpAny (model prog w) A (assign target env v) (fun _ s₂ =>
          wpAny (model prog w) A (forIn ifs true fun c r => if r = true then do let ok ← isTrue c env (eval c env); pure (ForInStep.yield ok) else pure (ForInStep.yield r)) (fun ok s₃ =>
            if ok = true then wpAny (model prog w) A (eval elt env) (fun x s₄ =>
              wpAny (model prog w) A (call (.builtin "list.append") [acc, x]) (fun _ s₅ => ∃ m, m < n ∧ I m s₅) (fun _ _ => False) s₄) (fun _ _ => False) s₃
            else ∃ m, m < n ∧ I m s₃) (fun _ _ => False) s₂) (fun _ _ => False) s₀) (fun _ _ => False) s₁) (fun _ _ => False) s)
    (n : Nat) (h : I n s) :
    codeAny (model prog w) A (.compLoop (.ListComp elt [⟨target, iter, ifs, 0⟩] scope pos) 0 it acc env) R s := by
  refine codeAny_loop rfl I (fun n s hI => ?_) n h
  show wpAny _ A ((compTurn (.ListComp elt [⟨target, iter, ifs, 0⟩] scope pos) 0 it acc env).onRaise (fun x => do noteFrame x env; theTreesLotGoes x)) _ _ s
  refine wpAny_noted ?_
  rw [compTurn_list]
  have nf : ∀ {α : Type} {m : Sem α} {Q : α → Shared → Prop} {F : Value → Shared → Prop} {s : Shared}, wpAny (model prog w) A m Q (fun _ _ => False) s → wpAny (model prog w) A m Q F s := fun h => wpAny_mono h (fun _ _ x => x) fun _ _ x => x.elim
  refine wpAny_bind (wpAny_standAt (wpAny_bind (wpAny_mono (nf (turn n s hI)) (fun r s₁ h₁ => ?_) fun _ _ h' => h')))
  cases r with
  | none => exact wpAny_pure h₁
  | some v =>
    refine wpAny_bind (wpAny_mono (nf h₁) (fun _ s₀ h₀ => ?_) fun _ _ h' => h')
    refine wpAny_bind (wpAny_mono (nf h₀) (fun _ s₂ h₂ => wpAny_bind (wpAny_mono (nf h₂) (fun ok s₃ h₃ => ?_) fun _ _ h' => h')) fun _ _ h' => h')
    cases ok with
    | false => exact wpAny_pure ⟨rfl, h₃⟩
    | true =>
      exact wpAny_bind (wpAny_bind (wpAny_mono (nf h₃) (fun x s₄ h₄ => wpAny_bind (wpAny_mono (nf h₄) (fun _ s₅ h₅ => wpAny_pure (wpAny_pure ⟨rfl, h₅⟩)) fun _ _ h' => h')) fun _ _ h' => h'))
end

/-! ### targets that leave the free names -/
def Wk (fr : List (Option Nat)) (σ σ2 : St) : Prop := σ2.length = σ.length ∧ ∀ (i j : Nat), fr[i]? = some (some j) → σ2[i]? = σ[i]?
theorem Wk.trans {fr : List (Option Nat)} {a b c : St} (h1 : Wk fr a b) (h2 : Wk fr b c) : Wk fr a c := ⟨h2.1.trans h1.1, fun i j e => (h2.2 i j e).trans (h1.2 i j e)⟩
def GW (fr : List (Option Nat)) (g : TG) : Prop := ∀ x σ H (Q Q' : St → Hp → Prop), (∀ σ2 H2, Wk fr σ σ2 → Q σ2 H2 → Q' σ2 H2) → g x σ H Q → g x σ H Q'
def GWs (fr : List (Option Nat)) (g : TGs) : Prop := ∀ x σ H (Q Q' : St → Hp → Prop), (∀ σ2 H2, Wk fr σ σ2 → Q σ2 H2 → Q' σ2 H2) → g x σ H Q → g x σ H Q'
theorem gw_name {fr : List (Option Nat)} {i : Nat} (h : fr[i]? = some none) : GW fr (gName i) := fun x σ H Q Q' k q => by
  refine k _ _ ⟨by simp, fun a j e => ?_⟩ q
  have : i ≠ a := fun z => by subst z; rw [h] at e; cases e
  rw [List.getElem?_set_ne this]
theorem gws_nil {fr : List (Option Nat)} : GWs fr gNil := fun x σ H Q Q' k q => ⟨q.1, k _ _ ⟨rfl, fun _ _ _ => rfl⟩ q.2⟩
theorem gws_cons {fr : List (Option Nat)} {t : TG} {u : TGs} (h1 : GW fr t) (h2 : GWs fr u) : GWs fr (gCons t u) := fun x σ H Q Q' k q => by
  obtain ⟨v, r, e, q⟩ := q
  exact ⟨v, r, e, h1 v σ H _ _ (fun σ' H' w1 q1 => h2 r σ' H' _ _ (fun σ2 H2 w2 q2 => k _ _ (w1.trans w2) q2) q1) q⟩
theorem gw_tup {fr : List (Option Nat)} {K : PySem.W.Frag} {n : Nat} {t : TGs} (h : GWs fr t) : GW fr (gTup K n t) := fun x σ H Q Q' k q => by
  obtain ⟨a, xs, e1, e2, e3, q⟩ := q
  exact ⟨a, xs, e1, e2, e3, h xs σ H _ _ k q⟩

/-! ### the tests -/
def PIfs (X : Cx) (ifs : List Expr) (t : TT) : Prop :=
  ∀ (pins : List (Addr × Obj)) (s : Shared) (σ : St) (H : Hp) (Q : Bool → Hp → Prop), Inv X pins σ H s → t σ H Q →
    wpAny (model X.prog X.w) X.A (forIn ifs true fun c r => if r = true then do let ok ← isTrue c X.env (eval c X.env); pure (ForInStep.yield ok) else pure (ForInStep.yield r)) (TP X pins σ Q) X.xe s
def tNoIf : TT := fun _ H Q => Q true H
theorem pifs_nil {X : Cx} : PIfs X [] tNoIf := fun _ _ _ H _ I h => wpAny_tests_nil ⟨H, I, h⟩
theorem pifs_one {X : Cx} {c : Expr} {t : TT} (h : PT X c t) : PIfs X [c] t := fun pins s σ H Q I q => wpAny_tests_one (h pins s σ H Q I q)

/-! ### the comprehension -/
def CompI (J : It) (g : TG) (ti : TT) (te : TE) (σc : St) (H1 : Hp) (Q : VK) : Prop := ∃ W : Nat → Nat → List V → Hp → Prop, (∃ m, W 0 m [] H1) ∧ ∀ i m ys H, W i m ys H → ys.length < sizeLine ∧
  ((J.stop i H ∧ ∀ l, H l = none → Q (.ref l) (upd H l (.lst ys))) ∨ (J.go i H ∧ ∃ M : List V → Hp → Prop, (∀ ys' H', M ys' H' → ∃ m', m' < m ∧ W (i + 1) m' ys' H') ∧
    ∀ x H', J.yld i H x H' → g x σc H' fun σ2 H2 => ti σ2 H2 fun b H3 => if b = true then te σ2 H3 fun y H4 => M (ys ++ [y]) H4 else M ys H3))
def tComp (fr : List (Option Nat)) (wi : TI) (g : TG) (ti : TT) (te : TE) : TE := fun σ H Q => wi σ H fun J H1 => CompI J g ti te (stC fr σ) H1 Q
structure Aside (X : Cx) (pins : List (Addr × Obj)) (H : Hp) (C : Addr) : Prop where
  fr : H C = none
  ne : C ≠ X.env.locals
  ab : X.s₀.heap.objs.size ≤ C
  cl : ∀ x c, X.env.cells.lookup x = some c → c ≠ C
  pn : ∀ p ∈ X.pn ++ pins, p.1 ≠ C
theorem Inv.aside {X : Cx} {pins : List (Addr × Obj)} {σ : St} {H H' : Hp} {s : Shared} {C : Addr} (I : Inv X pins σ H s) (hC : s.heap.objs.size ≤ C) (hn : H' C = none) : Aside X pins H' C := by
  obtain ⟨a, b, c, d, e, f⟩ := I.fpOk hC hn
  exact ⟨hn, b, Nat.le_trans I.sz hC, e, f⟩
def lob (us : List Value) (n : Nat) : Obj := { cls := .type "list", dict := none, data := .seq us.toArray n }
section
variable {X : Cx} {scope : Scope} {N : List Str} {fr : List (Option Nat)} {tg iter elt : Expr} {ifs : List Expr} {pos : Pos} {J : It} {g : TG} {ti : TT} {te : TE}
theorem comp_core {pins : List (Addr × Obj)} {σ : St} {H : Hp} {s₂ : Shared} {it : Addr} {fp : List Addr} {tn : Nat → Heap → Prop} {Q : VK} {E : Value → Shared → Prop} (c : CompOk X scope N fr) (hc : X.calm = true) (I : Inv X pins σ H s₂)
    (T : Turn X.prog X.w X.K tg J fp it tn) (st : tn 0 s₂.heap) (hfp : ∀ b ∈ fp, FpOk X pins H b)
    (hg : ∀ C, PG (cxC X scope C N s₂ H fp) tg g) (hi : ∀ C, PIfs (cxC X scope C N s₂ H fp) ifs ti) (he : ∀ C, PE (cxC X scope C N s₂ H fp) elt te) (gw : GW fr g) (hq : CompI J g ti te (stC fr σ) H Q)
    {RR : Value → Addr → Result → Shared → Prop}
    (hRR : ∀ D C H' ys s', Inv X pins σ (upd H' D (.lst ys)) s' → Aside X pins (upd H' D (.lst ys)) C → (∃ m, s'.heap.Ns C m) → Q (.ref D) (upd H' D (.lst ys)) → RR (.ref D) C (.ok .next) s') :
    wpAny (model X.prog X.w) X.A (newList []) (fun acc s₃ => wpAny (model X.prog X.w) X.A (newFunctionEnv scope X.env.globals (clOf X.env scope.names []) [] X.env.qual none .none (some X.env)) (fun cenv s₄ =>
      codeAny (model X.prog X.w) X.A (.compStart (.ListComp elt [⟨tg, iter, ifs, 0⟩] scope pos) 0 (.ref it) acc { cenv with scope := relabel scope X.env }) (RR acc cenv.locals) s₄) E s₃) E s₂ := by
  refine wpAny_newObj_type (wpAny_newFunctionEnv c.ncell (by intro y hy; simp at hy) (fun h₁ hns₁ hsb₁ => ?_) c.kind)
  dsimp only at hns₁ hsb₁ ⊢
  generalize hH2 : s₂.heap.push { cls := .type "list", dict := none, data := .seq ([] : List Value).toArray } = H2 at hns₁ hsb₁ ⊢
  have hC : H2.objs.size = s₂.heap.objs.size + 1 := by rw [← hH2, Heap.size_push]
  have hCle : s₂.heap.objs.size ≤ H2.objs.size := by rw [hC]; exact Nat.le_succ _
  have hDC : s₂.heap.objs.size ≠ H2.objs.size := by rw [hC]; exact Nat.ne_of_lt (Nat.lt_succ_self _)
  have old : ∀ b o, s₂.heap.get? b = some o → h₁.get? b = some o := fun b o e => hsb₁.extBut b o (by rw [hC]; exact Nat.ne_of_lt (Nat.lt_succ_of_lt (Heap.lt_size e))) (Heap.get?_push_of_some _ (hH2 ▸ Heap.get?_push_of_some _ e))
  have hacc : h₁.get? s₂.heap.objs.size = some (lob [] 0) := hsb₁.extBut _ _ hDC (Heap.get?_push_of_some _ (hH2 ▸ Heap.get?_push_size _ rfl))
  generalize hD : s₂.heap.objs.size = D at *
  generalize hCC : H2.objs.size = C at *
  have hfp2 : ∀ b ∈ fp, FpOk X pins H b ∧ b < s₂.heap.objs.size := fun b hb => ⟨hfp b hb, by obtain ⟨o, e, _⟩ := T.obj _ _ st b hb; exact Heap.lt_size e⟩
  have hns₂ : h₁.Ns C fun _ => none := hns₁
  have I0 : Inv (cxC X scope C N s₂ H fp) [] (stC fr σ) H { s₂ with heap := h₁, toks := s₂.toks + ([] : List (Str × Value)).length } := comp_inv c I (by rw [hD]; exact hCle) hfp2 old hns₂
  have st₁ : tn 0 h₁ := T.keep _ _ _ st fun b hb o e => old b o e
  have hDn : ∀ b ∈ fp, b ≠ D := fun b hb => by rw [← hD]; exact Nat.ne_of_lt (hfp2 b hb).2
  -- what is true of the list that grows
  have dAs : ∀ {H' : Hp}, H' D = none → (D ≠ (cxC X scope C N s₂ H fp).env.locals ∧ (cxC X scope C N s₂ H fp).s₀.heap.objs.size ≤ D ∧ ∀ x a, (cxC X scope C N s₂ H fp).env.cells.lookup x = some a → a ≠ D) := fun hn => ⟨hDC, Nat.le_of_eq hD, fun x a e z => by
    obtain ⟨v, o, ho, _⟩ := I.cell x a (c.get I.ok e)
    have := Heap.lt_size ho
    rw [z, ← hD] at this
    exact Nat.lt_irrefl _ this⟩
  obtain ⟨W, ⟨m0, w0⟩, turn⟩ := hq
  have loop : codeAny (model X.prog X.w) X.A (.compLoop (.ListComp elt [⟨tg, iter, ifs, 0⟩] scope pos) 0 (.ref it) (.ref D) (compEnvC scope (clOf X.env scope.names []) C X.env)) (RR (.ref D) C) { s₂ with heap := h₁, toks := s₂.toks + ([] : List (Str × Value)).length } := by
    refine compLoop_any (fun n s' => ∃ i ys us k H', Inv (cxC X scope C N s₂ H fp) [] (stC fr σ) H' s' ∧ tn i s'.heap ∧ (∀ b ∈ fp, H' b = none) ∧ s'.heap.get? D = some (lob us k) ∧ Vals ys us ∧ H' D = none ∧ W i n ys H') ?_ m0
      ⟨0, [], [], 0, H, I0, st₁, fun b hb => (hfp b hb).1, hacc, .nil, by rw [← hD]; exact I.hok.fresh (Nat.le_refl _), w0⟩
    rintro n s3 ⟨i, ys, us, k, H3, I3, st3, fr3, hD3, rv3, hDn3, w3⟩
    obtain ⟨hlen, alt⟩ := turn i n ys H3 w3
    obtain ⟨d1, d2, d3⟩ := dAs hDn3
    -- the list pinned
    have I3p : Inv (cxC X scope C N s₂ H fp) [(D, lob us k)] (stC fr σ) H3 s3 := I3.pins_of fun p hp => by
      have e : p = (D, lob us k) := by simpa using hp
      subst e
      refine ⟨hD3, hDn3, d1, fun z => ?_, fun v e => by cases (show Data.seq us.toArray k = Data.cell v from e)⟩
      have z' : D ∈ frs X.stack := z
      rcases List.mem_cons.mp (I.stkSub D z') with e | e
      · have := I.lt
        rw [← e, ← hD] at this
        exact Nat.lt_irrefl _ this
      · exact I.nofs (Nat.le_of_eq hD) e
    have stat : ∀ {H' : Hp}, (∀ b ∈ fp, H' b = none) → ∀ b ∈ fp, FpOk (cxC X scope C N s₂ H fp) [(D, lob us k)] H' b := fun hn b hb => by
      obtain ⟨q1, q2⟩ := hfp2 b hb
      refine ⟨hn b hb, Nat.ne_of_lt (Nat.lt_of_lt_of_le q2 (by rw [hD]; exact hCle)), fun z => ?_, .inl hb, fun x a e => q1.2.2.2.2.1 x a (c.get I.ok e), fun p hp => ?_⟩
      · exact (comp_ok c I (by rw [hD]; exact hCle) hfp2).exfs b hb z
      · have e : p = (D, lob us k) := by simpa [cxC] using hp
        subst e
        exact (hDn b hb).symm
    rcases alt with ⟨stop, qn⟩ | ⟨go, M, hM, step⟩
    · refine thn (T.done (cxC X scope C N s₂ H fp) rfl rfl rfl hc i _ s3 _ H3 _ I3p (stat fr3) st3 stop) fun r s4 ⟨hr, I4⟩ => ?_
      subst hr
      have pD := (I4.pin (D, lob us k) (by simp)).1
      have I4' : Inv (cxC X scope C N s₂ H fp) [] (stC fr σ) H3 s4 := I4.pins_of fun p hp => absurd hp (by simp)
      have IX : Inv X pins σ H3 s4 := I.call' I4'.os I4'.base I4'.hok I4'.bare fun b hb => by
        obtain ⟨q1, q2, q3, q4, q5, q6⟩ := hfp b hb
        exact ⟨q4, q2, q5, q6⟩
      have aD : Aside X pins H3 D := I.aside (Nat.le_of_eq hD) hDn3
      have IT : Inv X pins σ (upd H3 D (.lst ys)) s4 := IX.track hDn3 aD.ne aD.ab aD.cl aD.pn ⟨Nat.le_of_lt hlen, us, k, rv3, pD⟩
      refine hRR D C H3 ys s4 IT ?_ ?_ (qn D hDn3)
      · refine I.aside (by rw [hD]; exact hCle) ?_
        rw [upd_ne (Ne.symm hDC)]
        exact I4'.free
      · obtain ⟨m, hm, _⟩ := I4'.loc
        exact ⟨m, hm⟩
    · refine thn (T.item (cxC X scope C N s₂ H fp) rfl rfl rfl hc i _ s3 _ H3 _ I3p (stat fr3) st3 go) fun r s4 ⟨u, hr, h4⟩ => ?_
      subst hr
      refine thn h4 fun _ s5 ⟨x, H5, I5, r5, y5, st5, fr5⟩ => ?_
      have I5' := I5.pinned (stat fr5) (T.obj _ _ st5)
      refine thn (hg C _ s5 _ H5 x u _ I5' r5 (gw x _ H5 _ _ (fun σ2 H2 wk q => And.intro wk q) (step x H5 y5))) fun _ s6 ⟨σ6, H6, I6, wk6, q6⟩ => ?_
      refine thn (hi C _ s6 σ6 H6 _ I6 q6) fun ok s7 ⟨H7, I7, q7⟩ => ?_
      have back : ∀ {σ8 : St} {H8 : Hp} {s8 : Shared}, σ8 = σ6 → Inv (cxC X scope C N s₂ H fp) ([(D, lob us k)] ++ pinsAt fp s5.heap) σ8 H8 s8 → Inv (cxC X scope C N s₂ H fp) [] (stC fr σ) H8 s8 ∧ tn (i + 1) s8.heap ∧ (∀ b ∈ fp, H8 b = none) ∧ s8.heap.get? D = some (lob us k) ∧ H8 D = none := fun {σ8 H8 s8} e8 I8 => by
        subst e8
        have pf : ∀ b o, b ∈ fp → s5.heap.get? b = some o → s8.heap.get? b = some o ∧ H8 b = none := fun b o hb e => by
          have := I8.pin (b, o) (List.mem_append_right _ (List.mem_append_right _ (mem_pinsAt hb e)))
          exact ⟨this.1, this.2.1⟩
        refine ⟨(I8.pins_of (pins' := []) fun p hp => absurd hp (by simp)).weak wk6.1.symm fun a v e => ?_, T.keep _ _ _ st5 fun b hb o e => (pf b o hb e).1, fun b hb => ?_, (I8.pin (D, lob us k) (by simp)).1, (I8.pin (D, lob us k) (by simp)).2.1⟩
        · obtain ⟨j, f1, _⟩ := stC_get e
          rw [wk6.2 a j f1]
          exact e
        · obtain ⟨o, e, _⟩ := T.obj _ _ st5 b hb
          exact (pf b o hb e).2
      cases ok with
      | false =>
        obtain ⟨m', hm, w7⟩ := hM _ _ (by simpa using q7)
        obtain ⟨a1, a2, a3, a4, a5⟩ := back rfl I7
        exact ⟨m', hm, i + 1, ys, us, k, H7, a1, a2, a3, a4, rv3, a5, w7⟩
      | true =>
        have q7' : te σ6 H7 fun y H4 => M (ys ++ [y]) H4 := by simpa using q7
        refine thn (he C _ s7 σ6 H7 _ I7 q7') fun v s8 ⟨y, H8, I8, ry, q8⟩ => ?_
        obtain ⟨m', hm, w8⟩ := hM _ _ q8
        obtain ⟨a1, a2, a3, a4, a5⟩ := back rfl I8
        have hus : us.toArray.size ≤ sizeLine := by
          rw [List.size_toArray, ← rv3.length]
          exact Nat.le_of_lt hlen
        refine wpAny_list_append_plain (hsz := hus) (l := D) (items := us.toArray) ⟨_, a4⟩ fun h₅ hl₅ hs₅ => ?_
        obtain ⟨k', hl₅'⟩ := hl₅
        obtain ⟨e1, e2, e3⟩ := dAs a5
        refine ⟨m', hm, i + 1, ys ++ [y], us ++ [v], k', H8, a1.turned (t' := s8.toks) (fun b o hb e => (hs₅.2 b hb).trans e) a5 e1 (.inr e2) e3 (fun p hp => absurd (show p ∈ ([] : List (Addr × Obj)) from hp) (by simp)), T.keep _ _ _ a2 fun b hb o e => (hs₅.2 b (hDn b hb)).trans e, a3, ?_, rv3.append (.cons ry .nil), a5, w8⟩
        show h₅.get? D = _
        rw [hl₅']
        simp [lob]
  exact codeAny_compStart_list loop (T.self _ _ _ _ _ st₁ loop)

theorem pe_comp {wi : TI} (c : CompOk X scope N fr) (hc : X.calm = true) (hi : PI X tg iter wi) (hg : ∀ C s₂ H fp, PG (cxC X scope C N s₂ H fp) tg g) (hf : ∀ C s₂ H fp, PIfs (cxC X scope C N s₂ H fp) ifs ti) (he : ∀ C s₂ H fp, PE (cxC X scope C N s₂ H fp) elt te) (gw : GW fr g)
    (hs : ∀ x, foldedSetIterable iter X.env x = pure x := by intro _; rfl) : PE X (.ListComp elt [⟨tg, iter, ifs, 0⟩] scope pos) (tComp fr wi g ti te) := by
  intro pins s σ H Q I h
  rw [eval_ListComp]
  refine wpAny_comprehension_free (use := none) rfl hs (closure_eq (c.cells I.ok)) c.kind c.names (thn (hi pins s σ H _ I h) fun v s1 h1 => thn h1 fun itv s2 h2 => ?_)
  obtain ⟨it, fp, tn, J, H2, e, I2, T, st2, f2, q⟩ := h2
  subst e
  refine comp_core (RR := fun acc C => compPost (model X.prog X.w) X.A X.xe none (EP X pins σ Q) acc C) c hc I2 T st2 f2 (fun C => hg C _ _ _) (fun C => hf C _ _ _) (fun C => he C _ _ _) gw q ?_
  intro D C H' ys s' IT as hm q
  obtain ⟨m, hm⟩ := hm
  exact ⟨m, hm, fun h' sb => ⟨.ref D, _, IT.turned (t' := s'.toks) (fun b o hb e => (sb.2 b hb).trans e) as.fr as.ne (.inr as.ab) as.cl as.pn, rfl, q⟩⟩
theorem ps_setC {wi : TI} {i : Nat} {x : Str} {pos' spos : Pos} (hN : X.N.Nodup) (hn : X.N[i]? = some x) (hx : Loc X.env.scope x) (c : CompOk X scope N fr) (hc : X.calm = true) (hi : PI X tg iter wi) (hg : ∀ C s₂ H fp, PG (cxC X scope C N s₂ H fp) tg g) (hf : ∀ C s₂ H fp, PIfs (cxC X scope C N s₂ H fp) ifs ti) (he : ∀ C s₂ H fp, PE (cxC X scope C N s₂ H fp) elt te) (gw : GW fr g)
    (hsw : swapsWith (.ListComp elt [⟨tg, iter, ifs, 0⟩] scope pos) (some (.Name x pos')) spos.line X.env = pure true := by rfl) (hs : ∀ x, foldedSetIterable iter X.env x = pure x := by intro _; rfl)
    (hfl : X.fn x = true ∨ X.env.scope.names.lookup x = some .local := by first | exact .inl rfl | exact .inr rfl | assumption) :
    PS X (.Assign [.Name x pos'] (.ListComp elt [⟨tg, iter, ifs, 0⟩] scope pos) spos) (tAsg (tComp fr wi g ti te) (gName i)) := by
  intro pins s σ H Q I h
  rw [exec_Assign_Name_used _ _ _ _ hsw]
  refine wpAny_bind (wpAny_standAt (wpAny_bind ?_))
  show wpAny _ X.A (do let _ ← comprehension (.ListComp elt [⟨tg, iter, ifs, 0⟩] scope pos) scope X.env _ (newList []) false (eval iter X.env) (some (assign (.Name x pos') X.env))) _ _ s
  refine wpAny_bind (wpAny_mono (wpAny_comprehension_free (use := some (assign (.Name x pos') X.env)) (Q := fun _ s' => SP X pins Q .next s') rfl hs (closure_eq (c.cells I.ok)) c.kind c.names
    (thn (hi pins s σ H _ I h) fun v s1 h1 => thn h1 fun itv s2 h2 => ?_)) (fun _ s' hq => wpAny_pure (wpAny_pure hq)) fun _ _ e => e)
  obtain ⟨it, fp, tn, J, H2, e, I2, T, st2, f2, q⟩ := h2
  subst e
  refine comp_core (RR := fun acc C => compPost (model X.prog X.w) X.A X.xe (some (assign (.Name x pos') X.env)) (fun _ s' => SP X pins Q .next s') acc C) c hc I2 T st2 f2 (fun C => hg C _ _ _) (fun C => hf C _ _ _) (fun C => he C _ _ _) gw q ?_
  intro D C H' ys s' IT as hm q
  obtain ⟨m, hm⟩ := hm
  show wpAny _ X.A (assign (.Name x pos') X.env (.ref D)) _ _ _
  refine wpAny_assign_Name (store_ok2 IT hN hn hx (v := .ref D) rfl (fun s2 I3 hsb => ?_) hfl)
  obtain ⟨a, sb, ha⟩ := hsb
  have hne : C ≠ a := by
    rcases ha with ha | ha
    · rw [ha]; exact as.ne
    · exact (as.cl _ _ ha).symm
  refine ⟨m, hm.sameBut sb hne, fun h' sb' => ⟨_, _, I3.turned (t' := s2.toks) (fun b o hb e => (sb'.2 b hb).trans e) as.fr as.ne (.inr as.ab) as.cl as.pn, q⟩⟩
end
end L2

set_option Elab.async false
set_option linter.all false
set_option maxRecDepth 100000
namespace L2
open PySem PySem.Spec PyProof.Rows

/-- several untracked records of ours have turned -/
theorem Inv.turnedL {X : Cx} {pins : List (Addr × Obj)} {σ : St} {H : Hp} {s : Shared} {h' : Heap} {t' : Nat} {fp : List Addr} (I : Inv X pins σ H s) (hf : ∀ b ∈ fp, FpOk X pins H b) (k : ∀ b o, b ∉ fp → s.heap.get? b = some o → h'.get? b = some o) :
    Inv X pins σ H { s with heap := h', toks := t' } := by
  have nit : ∀ b u, H b = some u → b ∉ fp := fun b u e z => by rw [(hf b z).1] at e; cases e
  refine I.step (g' := s.gens) (d' := s.drawn) (ch := fp) (fun b hb => ?_) (fun b o _ _ hc e _ => k b o hc e) (fun b o _ _ hc e _ => ⟨o.slots, k b o hc e⟩) (fun _ _ _ _ n => n)
    (fun b o hc e => ⟨o, k b o hc e⟩) (fun _ _ e => e) (fun _ _ _ e => e) (fun b ps e => ⟨#[], by rw [e]; simp⟩) (fun m hm => ?_) (fun b u e => ?_) I.bare
  · obtain ⟨q1, q2, q3, q4, q5, q6⟩ := hf b hb
    exact ⟨q4, q2, q5, q6⟩
  · obtain ⟨o, es, ep, ho, r⟩ := hm
    exact ⟨o, es, ep, k _ o (fun z => (hf _ z).2.1 rfl) ho, r⟩
  · refine (I.hok b u e).stay (fun c v hc q => k c v ?_ q) (fun _ q => q) fun _ _ q => q
    rcases hc with z | z
    · rw [z]; exact nit b u e
    · exact nit c _ z
/-- .. and a tuple is new -/
theorem Inv.turnT {X : Cx} {pins : List (Addr × Obj)} {σ : St} {H : Hp} {s : Shared} {h' : Heap} {t' : Nat} {fp : List Addr} {T : Addr} {xs : List V} {its : List Value} (I : Inv X pins σ H s) (hf : ∀ b ∈ fp, FpOk X pins H b) (k : ∀ b o, b ∉ fp → s.heap.get? b = some o → h'.get? b = some o)
    (hT : s.heap.objs.size ≤ T) (hz : xs.length ≤ sizeLine) (r : Vals xs its) (it : IsTup h' T its.toArray) : Inv X pins σ (upd H T (.tup xs)) { s with heap := h', toks := t' } := by
  have hn : H T = none := I.hok.fresh hT
  have a := I.aside hT hn
  exact (I.turnedL (t' := t') hf k).track hn a.ne a.ab a.cl a.pn ⟨hz, its, r, it⟩

/-! ### zip of two lists -/
def Itz (K : PySem.W.Frag) (a b : Addr) : It :=
  ⟨fun i H => ∃ xs ys x y, SqL K H a xs ∧ SqL K H b ys ∧ xs[i]? = some x ∧ ys[i]? = some y,
   fun i H v H' => ∃ T x y, v = .ref T ∧ H T = none ∧ H' = upd H T (.tup [x, y]) ∧ (∀ xs, SqL K H a xs → xs[i]? = some x) ∧ ∀ ys, SqL K H b ys → ys[i]? = some y,
   fun i H => ∃ xs ys, SqL K H a xs ∧ SqL K H b ys ∧ (xs.length ≤ i ∨ ys.length ≤ i)⟩
def ZipSt (z TI TO i1 i2 a b : Addr) (i : Nat) (h : Heap) : Prop := IsZip h z TI TO .none ∧ IsPair h TI (.ref i1) (.ref i2) ∧ (∃ u v, IsPair h TO u v) ∧ h.IsListIter i1 a i ∧ h.IsListIter i2 b i
def iZip2 (K : PySem.W.Frag) (ta : TA) : TI := fun σ H R => ta σ H fun vs H1 => ∃ a b, vs = [.ref a, .ref b] ∧ (∃ xs, SqL K H1 a xs) ∧ (∃ ys, SqL K H1 b ys) ∧ R (Itz K a b) H1
theorem bt_enumerate : bootBuiltins "enumerate" = some (.type "enumerate") := by first | exact PySem.boot_enumerate | exact PyProof.Rows.boot_enumerate
section
variable {X : Cx} {elts : List Expr} {kk : Nat} {tp : Pos}
end

/-! ### enumerate of a list -/
def Ite (K : PySem.W.Frag) (a : Addr) : It :=
  ⟨fun i H => ∃ xs x, SqL K H a xs ∧ xs[i]? = some x,
   fun i H v H' => ∃ T x, v = .ref T ∧ H T = none ∧ H' = upd H T (.tup [.int i, x]) ∧ (∀ xs, SqL K H a xs → xs[i]? = some x),
   fun i H => ∃ xs, SqL K H a xs ∧ xs.length ≤ i⟩
theorem turn_enum {P : Program} {w : World} {K : PySem.W.Frag} {elts : List Expr} {kk : Nat} {tp : Pos} {e it a : Addr} (hei : e ≠ it) :
    Turn P w K (.Tuple elts kk tp) (Ite K a) [e, it] e (fun i h => (∃ old, IsEnum h e it i old) ∧ h.IsListIter it a i) where
  mem := by simp
  obj := fun i h st c hc => by
    obtain ⟨⟨old, h1⟩, ⟨o1, e1, _, d1⟩⟩ := st
    simp only [List.mem_cons, List.not_mem_nil, or_false] at hc
    rcases hc with rfl | rfl
    · exact ⟨_, h1, fun v z => by cases (show Data.fields _ = Data.cell v from z)⟩
    · exact ⟨_, e1, fun v z => by rw [d1] at z; cases z⟩
  keep := fun i h h' st k => by
    obtain ⟨⟨old, h1⟩, h2⟩ := st
    exact ⟨⟨old, k _ (by simp) _ h1⟩, h2.at fun o e => k _ (by simp) o e⟩
  item := by
    intro X hP hw hK hc i pins s σ H E I hf st hg
    subst hP hw hK
    obtain ⟨xs, x, hx, ex⟩ := hg
    obtain ⟨⟨old, h1⟩, h2⟩ := st
    obtain ⟨its, rv, p, hz⟩ := I.list hx
    obtain ⟨ux, hux, rux⟩ := rv.get ex
    refine wpAny_pyNext_enum_item h1 h2 p.isList (x := ux) (by simpa using hux) hei fun h' a1 a2 a3 a4 a5 => ?_
    have lt : ∀ c ∈ [e, it], c < s.heap.objs.size := fun c hc => by
      obtain ⟨o1, e1, _⟩ := h2
      simp only [List.mem_cons, List.not_mem_nil, or_false] at hc
      rcases hc with rfl | rfl
      · exact Heap.lt_size h1
      · exact Heap.lt_size e1
    have eT : e ≠ s.heap.objs.size := Nat.ne_of_lt (lt e (by simp))
    refine ⟨_, rfl, wpAny_letOwnedTupleGo_enum (s := { s with heap := h', toks := s.toks + 1 }) a1 fun h2' b1 b2 => ?_⟩
    have hk : ∀ c o, c ∉ [e, it] → s.heap.get? c = some o → h2'.get? c = some o := fun c o hc q => by
      simp only [List.mem_cons, List.not_mem_nil, or_false, not_or] at hc
      exact (b2.2 c hc.1).trans (a5 c o hc.1 hc.2 q)
    have I1 := I.turnT (h' := h2') (t' := s.toks + 1) (T := s.heap.objs.size) (xs := [.int i, x]) (its := [.int i s.toks, ux]) hf hk (Nat.le_refl _) (szl (Nat.le_of_ble_eq_true rfl)) (.cons ⟨_, rfl⟩ (.cons rux .nil)) ⟨_, (b2.2 _ eT.symm).trans a3, rfl, _, rfl⟩
    refine ⟨.ref s.heap.objs.size, _, I1, rfl, ⟨_, x, rfl, I.hok.fresh (Nat.le_refl _), rfl, fun xs' h => by rw [I.list_inj h hx]; exact ex⟩, ?_, fun c hc => ?_⟩
    · exact ⟨⟨ux, by simpa using b1⟩, a2.at fun o q => (b2.2 _ hei.symm).trans q⟩
    · rw [upd_ne (Nat.ne_of_lt (lt c hc))]
      exact (hf c hc).1
  done := by
    intro X hP hw hK hc i pins s σ H E I hf st hg
    subst hP hw hK
    obtain ⟨xs, hx, hl⟩ := hg
    obtain ⟨⟨old, h1⟩, h2⟩ := st
    obtain ⟨its, rv, p, hz⟩ := I.list hx
    have l1 := rv.length
    refine wpAny_pyNext_enum_end (I.ok.hd hc) h1 h2 p.isList (by simp; omega) fun h' hk => ⟨rfl, ?_⟩
    exact I.turnedL (t' := s.toks) hf fun c o hc q => by
        simp only [List.mem_cons, List.not_mem_nil, or_false, not_or] at hc
        exact hk c o hc.2 q
  self := fun A i s Q E st h => by
    obtain ⟨⟨old, h1⟩, _⟩ := st
    exact wpAny_pyIter_enum h1 h
def iEnum (K : PySem.W.Frag) (ta : TA) : TI := fun σ H R => ta σ H fun vs H1 => ∃ a, vs = [.ref a] ∧ (∃ xs, H1 a = some (.lst xs)) ∧ R (Ite K a) H1
section
variable {X : Cx} {elts : List Expr} {kk : Nat} {tp : Pos}
theorem pi_enumerate1 {a : Expr} {ta : TA} {p pos : Pos} (hg : Gl X "enumerate") (hm : X.mg "enumerate" = none) (ha : PA X [a] ta) (hs : starEach [a] X.env = [(false, eval a X.env)] := by rfl) :
    PI X (.Tuple elts kk tp) (.Call (.Name "enumerate" p) [a] [] pos) (iEnum X.K ta) := by
  intro pins s σ H R I h
  refine Call_ (ld_blt I hg hm bt_enumerate (PyProof.Rows.callWith_type1 (thn (ha pos pins s σ H _ I h) fun us s1 ⟨vs, H1, I1, r1, q1⟩ => ?_) hs rfl))
  obtain ⟨x, e, ⟨xs, hx⟩, q⟩ := q1
  subst e
  cases r1 with
  | cons r rr =>
    cases rr
    cases r
    obtain ⟨hz, its, n, rv, hg⟩ := (show ObjOk X.prog X.w H1 s1.heap x (.lst xs) from I1.hok x _ hx)
    refine call_enumerate_1 hg fun h' b1 b2 b3 b4 => ?_
    have I2 : Inv X pins σ H1 { s1 with heap := h' } := I1.kept (t' := s1.toks) b4
    refine wpAny_pyIter_enum (s := { s1 with heap := h' }) b1 ⟨_, _, _, _, H1, rfl, I2, turn_enum (Nat.ne_of_gt (Nat.lt_succ_self _)), ⟨⟨_, b1⟩, b2⟩, fun c hc => ?_, q⟩
    have hc' : s1.heap.objs.size ≤ c := by
      simp only [List.mem_cons, List.not_mem_nil, or_false] at hc
      rcases hc with rfl | rfl
      · exact Nat.le_add_right _ _
      · exact Nat.le_refl _
    exact I1.fpOk hc' (I1.hok.fresh hc')
end
end L2

set_option Elab.async false
set_option linter.all false
set_option maxRecDepth 100000
namespace L2
open PySem PySem.Spec PyProof.Rows
section
variable {prog : Program} {w : World} {A : Around} {E : Value → Shared → Prop} {s : Shared}
theorem min_raw {l : Addr} {vs : List Value} {ns : List Int} {Q : Value → Shared → Prop} (hh : A.handled = none) (hl : s.heap.IsList l vs.toArray) (hi : IntsAre vs ns) (hne : 0 < ns.length)
    (h : ∀ h' M (t : Tok) tk, (∀ b o, s.heap.get? b = some o → h'.get? b = some o) → M ∈ ns → (∀ a, a ∈ ns → M ≤ a) → Q (.int M t) { s with heap := h', toks := tk }) : wpAny (model prog w) A (call (.builtin "min") [.ref l]) Q E s := by
  obtain ⟨xs, e⟩ := hi.allInts.items
  have hns : ns = xs.toList.map (·.1) := by
    rw [← hi.numsOf, ← nums_intItems, ← e]
  have hsz : 0 < xs.size := by
    have h3 := hne; rw [hns, List.length_map, Array.length_toList] at h3; exact h3
  rw [e] at hl
  refine min_intList hh hl hsz fun v h' tk hv hk => ?_
  obtain ⟨t, rfl⟩ := intItems_at hv
  obtain ⟨h1, h2⟩ := argBest_lt (numAt xs) (xs.size - 1)
  refine h _ _ t tk hk ?_ fun a ha => ?_
  · rw [hns, numAt_eq]; exact PySem.getD_mem (by rw [List.length_map, Array.length_toList]; omega)
  · rw [hns] at ha
    obtain ⟨j, hj, rfl⟩ := mem_getD ha
    rw [List.length_map, Array.length_toList] at hj
    rw [← numAt_eq]; exact h2 j (by omega)
theorem max_raw {l : Addr} {vs : List Value} {ns : List Int} {Q : Value → Shared → Prop} (hh : A.handled = none) (hl : s.heap.IsList l vs.toArray) (hi : IntsAre vs ns) (hne : 0 < ns.length)
    (h : ∀ h' M (t : Tok) tk, (∀ b o, s.heap.get? b = some o → h'.get? b = some o) → M ∈ ns → (∀ a, a ∈ ns → a ≤ M) → Q (.int M t) { s with heap := h', toks := tk }) : wpAny (model prog w) A (call (.builtin "max") [.ref l]) Q E s := by
  obtain ⟨xs, e⟩ := hi.allInts.items
  have hns : ns = xs.toList.map (·.1) := by
    rw [← hi.numsOf, ← nums_intItems, ← e]
  have hsz : 0 < xs.size := by
    have h3 := hne; rw [hns, List.length_map, Array.length_toList] at h3; exact h3
  rw [e] at hl
  refine max_intList hh hl hsz fun v h' tk hv hk => ?_
  obtain ⟨t, rfl⟩ := intItems_at hv
  obtain ⟨h1, h2⟩ := argBest_gt (numAt xs) (xs.size - 1)
  refine h _ _ t tk hk ?_ fun a ha => ?_
  · rw [hns, numAt_eq]; exact PySem.getD_mem (by rw [List.length_map, Array.length_toList]; omega)
  · rw [hns] at ha
    obtain ⟨j, hj, rfl⟩ := mem_getD ha
    rw [List.length_map, Array.length_toList] at hj
    rw [← numAt_eq]; exact h2 j (by omega)
theorem sum_raw {l : Addr} {vs : List Value} {ns : List Int} {Q : Value → Shared → Prop} (hh : A.handled = none) (hl : s.heap.IsList l vs.toArray) (hi : IntsAre vs ns)
    (h : ∀ h' tk t', (∀ b o, s.heap.get? b = some o → h'.get? b = some o) → Q (.int ns.sum t') { s with heap := h', toks := tk }) : wpAny (model prog w) A (call (.builtin "sum") [.ref l]) Q E s := by
  obtain ⟨xs, hx⟩ := hi.allInts.items
  have hl' : s.heap.IsList l (intItems xs) := hx ▸ hl
  refine sum_intListG hh hl' fun h' tk t' hk => ?_
  have e1 : ns = xs.toList.map (·.1) := by
    rw [← nums_intItems, ← hx]
    exact (show numsOf vs.toArray.toList = ns from hi.numsOf).symm
  have e2 : preSum (numAt xs) xs.size = ns.sum := by
    rw [preSum_eq, List.take_of_length_le (by simp), e1]
  rw [e2]
  exact h h' tk t' hk
end
def rSum (K : PySem.W.Frag) : List V → Hp → VK → Prop := fun xs H Q => ∃ p ns, xs = [.ref p] ∧ SqL K H p (iL ns) ∧ Q (.int ns.sum) H
def rMin (K : PySem.W.Frag) : List V → Hp → VK → Prop := fun xs H Q => (∃ i j, xs = [.int i, .int j] ∧ Q (.int (if j < i then j else i)) H) ∨ ∃ p ns, xs = [.ref p] ∧ SqL K H p (iL ns) ∧ 0 < ns.length ∧ ∀ m, m ∈ ns → (∀ a ∈ ns, m ≤ a) → Q (.int m) H
def rMax (K : PySem.W.Frag) : List V → Hp → VK → Prop := fun xs H Q => (∃ i j, xs = [.int i, .int j] ∧ Q (.int (if j > i then j else i)) H) ∨ ∃ p ns, xs = [.ref p] ∧ SqL K H p (iL ns) ∧ 0 < ns.length ∧ ∀ m, m ∈ ns → (∀ a ∈ ns, a ≤ m) → Q (.int m) H
def rSorted (K : PySem.W.Frag) : List V → Hp → VK → Prop := fun xs H Q => ∃ p ns, xs = [.ref p] ∧ SqL K H p (iL ns) ∧ ns.length < 64 ∧ ∀ l ms, H l = none → ms.Perm ns → ms.Pairwise (· ≤ ·) → Q (.ref l) (upd H l (.lst (iL ms)))
section
variable {X : Cx}
theorem call_sumN (hc : X.calm = true) : CallR X (.builtin "sum") (rSum X.K) := by
  intro pins s σ H xs us Q I r h
  obtain ⟨p, ns, rfl, hq, q⟩ := h
  obtain ⟨u, rfl, ru⟩ := vals1 r
  cases ru
  obtain ⟨its, rv, pl, hz⟩ := I.list hq
  exact sum_raw (I.ok.hd hc) pl.isList (intsAre_of rv) fun h' tk t' hk => ⟨.int _, H, I.kept (t' := tk) hk, ⟨_, rfl⟩, q⟩
theorem call_minN (hc : X.calm = true) : CallR X (.builtin "min") (rMin X.K) := by
  intro pins s σ H xs us Q I r h
  rcases h with h | ⟨p, ns, rfl, hq, hne, q⟩
  · exact call_min2 hc pins s σ H xs us Q I r h
  · obtain ⟨u, rfl, ru⟩ := vals1 r
    cases ru
    obtain ⟨its, rv, pl, hz⟩ := I.list hq
    exact min_raw (I.ok.hd hc) pl.isList (intsAre_of rv) hne fun h' M t tk hk h1 h2 => ⟨.int M, H, I.kept (t' := tk) hk, ⟨_, rfl⟩, q M h1 h2⟩
theorem call_maxN (hc : X.calm = true) : CallR X (.builtin "max") (rMax X.K) := by
  intro pins s σ H xs us Q I r h
  rcases h with h | ⟨p, ns, rfl, hq, hne, q⟩
  · exact call_max2 hc pins s σ H xs us Q I r h
  · obtain ⟨u, rfl, ru⟩ := vals1 r
    cases ru
    obtain ⟨its, rv, pl, hz⟩ := I.list hq
    exact max_raw (I.ok.hd hc) pl.isList (intsAre_of rv) hne fun h' M t tk hk h1 h2 => ⟨.int M, H, I.kept (t' := tk) hk, ⟨_, rfl⟩, q M h1 h2⟩
end
section
variable {K : PySem.W.Frag} {H : Hp} {Q : VK} {p : Addr} {ns : List Int} {i j : Int}
theorem i_sum (h : SqL K H p (iL ns)) (q : Q (.int ns.sum) H) : rSum K [.ref p] H Q := ⟨p, ns, rfl, h, q⟩
theorem i_min2 (q : ∀ m, m = min i j → Q (.int m) H) : rMin K [.int i, .int j] H Q := .inl ⟨i, j, rfl, q _ (by split <;> omega)⟩
theorem i_max2 (q : ∀ m, m = max i j → Q (.int m) H) : rMax K [.int i, .int j] H Q := .inl ⟨i, j, rfl, q _ (by split <;> omega)⟩
end

/-! ### loops over zip, enumerate; comprehensions by an invariant -/
section
variable {K : PySem.W.Frag} {g : TG} {tb : TS} {D : Ends} {σ : St} {H : Hp}
end
section
variable {K : PySem.W.Frag} {g : TG} {ti : TT} {te : TE} {σc : St} {H : Hp} {Q : VK}
theorem cp_list {a : Addr} {xs : List V} (Pv : Nat → List V → Hp → Prop) (h0 : Pv 0 [] H) (hl : ∀ i ys H, Pv i ys H → SqL K H a xs ∧ ys.length ≤ i) (hx : xs.length < sizeLine)
    (hs : ∀ i x ys H, xs[i]? = some x → Pv i ys H → g x σc H fun σ2 H2 => ti σ2 H2 fun b H3 => if b = true then te σ2 H3 fun y H4 => Pv (i + 1) (ys ++ [y]) H4 else Pv (i + 1) ys H3)
    (hd : ∀ l ys H, Pv xs.length ys H → H l = none → Q (.ref l) (upd H l (.lst ys))) : CompI (Itl K a) g ti te σc H Q := by
  refine ⟨fun i m ys H => m = xs.length - i ∧ i ≤ xs.length ∧ Pv i ys H, ⟨_, rfl, Nat.zero_le _, h0⟩, ?_⟩
  rintro i m ys H ⟨rfl, hi, p⟩
  obtain ⟨q, hy⟩ := hl i ys H p
  refine ⟨by omega, ?_⟩
  by_cases hlt : i < xs.length
  · refine .inr ⟨⟨xs, xs[i], q, by simp [hlt]⟩, Pv (i + 1), fun σ' H' p' => ⟨_, by omega, rfl, hlt, p'⟩, fun x H' y => ?_⟩
    obtain ⟨e, y⟩ := y
    subst e
    exact hs i x ys _ (y xs q) p
  · have e : i = xs.length := by omega
    subst e
    exact .inl ⟨⟨xs, q, Nat.le_refl _⟩, fun l hl => hd l ys H p hl⟩
theorem cp_range {lo : Int} {n : Nat} (Pv : Nat → List V → Hp → Prop) (h0 : Pv 0 [] H) (hl : ∀ i ys H, Pv i ys H → ys.length ≤ i) (hx : n < sizeLine)
    (hs : ∀ i ys H, i < n → Pv i ys H → g (.int (lo + i)) σc H fun σ2 H2 => ti σ2 H2 fun b H3 => if b = true then te σ2 H3 fun y H4 => Pv (i + 1) (ys ++ [y]) H4 else Pv (i + 1) ys H3)
    (hd : ∀ l ys H, Pv n ys H → H l = none → Q (.ref l) (upd H l (.lst ys))) : CompI (Itr lo n) g ti te σc H Q := by
  refine ⟨fun i m ys H => m = n - i ∧ i ≤ n ∧ Pv i ys H, ⟨_, rfl, Nat.zero_le _, h0⟩, ?_⟩
  rintro i m ys H ⟨rfl, hi, p⟩
  have hy := hl i ys H p
  refine ⟨by omega, ?_⟩
  by_cases hlt : i < n
  · refine .inr ⟨hlt, Pv (i + 1), fun σ' H' p' => ⟨_, by omega, rfl, hlt, p'⟩, fun x H' y => ?_⟩
    obtain ⟨e, y⟩ := y
    subst e y
    exact hs i ys _ hlt p
  · have e : i = n := by omega
    subst e
    exact .inl ⟨Nat.le_refl _, fun l hl => hd l ys H p hl⟩
end
end L2
namespace L2
open PySem PySem.Spec PyProof.Rows
theorem fr_nil {X : Cx} {sc : Scope} : FrOk X sc [] [] := trivial
theorem fr_none {X : Cx} {sc : Scope} {x : Str} {N : List Str} {fr : List (Option Nat)} (h : FrOk X sc N fr) : FrOk X sc (x :: N) (none :: fr) := h
theorem fr_some {X : Cx} {sc : Scope} {x : Str} {N : List Str} {fr : List (Option Nat)} {j : Nat} (h1 : X.N[j]? = some x) (h2 : X.env.kindOf x = some .cell ∨ X.env.kindOf x = some .free) (h3 : sc.names.lookup x = some .free) (h : FrOk X sc N fr) : FrOk X sc (x :: N) (some j :: fr) := ⟨⟨h1, h2, h3⟩, h⟩
theorem pe_globI {X : Cx} {x : Str} {n : Int} {pos : Pos} (h : ∃ t, X.mg x = some (.int n t)) (hg : Gl X x) (hd : (x == ("__debug__" : Str)) = false := by decide) : PE X (.Name x pos) (tC (.int n)) := by
  obtain ⟨t, h⟩ := h
  exact pe_glob hg h ⟨t, rfl⟩ hd
end L2
namespace L2
open PySem PySem.Spec PyProof.Rows
/-! ### the same rules with K said apart (a block's context hides it) -/
section
variable {X : Cx} (K : PySem.W.Frag) {tg l : Expr} {tl : TE} {pos p : Pos}
theorem op_eqK (hu : X.A.units + 64 < cLine) (hK : X.K = K := by rfl) : OpR X (compareOp .Eq) (rEqP K) := by subst hK; exact op_eqP hu
theorem op_neK (hu : X.A.units + 64 < cLine) (hK : X.K = K := by rfl) : OpR X (compareOp .NotEq) (rNeP K) := by subst hK; exact op_neP hu
theorem ix_K (hK : X.K = K := by rfl) : IxR X (rIxP K) := by subst hK; exact ix_P
theorem sl_listK (hK : X.K = K := by rfl) : SlR X (rSlL K) := by subst hK; exact sl_list
theorem call_lenK (hK : X.K = K := by rfl) : CallR X (.builtin "len") (rLen K) := by subst hK; exact call_lenN
theorem call_listK (hK : X.K = K := by rfl) : CallR X (.type "list") (rListOf K) := by subst hK; exact call_listN
theorem call_sumK (hc : X.calm = true := by rfl) (hK : X.K = K := by rfl) : CallR X (.builtin "sum") (rSum K) := by subst hK; exact call_sumN hc
theorem call_minK (hc : X.calm = true := by rfl) (hK : X.K = K := by rfl) : CallR X (.builtin "min") (rMin K) := by subst hK; exact call_minN hc
theorem call_maxK (hc : X.calm = true := by rfl) (hK : X.K = K := by rfl) : CallR X (.builtin "max") (rMax K) := by subst hK; exact call_maxN hc
theorem call_intK : CallR X (.type "int") rIntOf := call_intN
theorem pi_listK (hl : PE X l tl) (hK : X.K = K := by rfl) : PI X tg l (iList K tl) := by subst hK; exact pi_list hl
theorem pi_enumerate1K {elts : List Expr} {kk : Nat} {tp : Pos} {a : Expr} {ta : TA} (hg : Gl X "enumerate") (hm : X.mg "enumerate" = none) (ha : PA X [a] ta) (hs : starEach [a] X.env = [(false, eval a X.env)] := by rfl) (hK : X.K = K := by rfl) :
    PI X (.Tuple elts kk tp) (.Call (.Name "enumerate" p) [a] [] pos) (iEnum K ta) := by subst hK; exact pi_enumerate1 hg hm ha hs
theorem pg_tupK {es : List Expr} {k : Nat} {t : TGs} (n : Nat) (h : PGs X es t) (hc : X.calm = true := by rfl) (hn : (assignEach es X.env).length = n := by rfl) (hst : (assignEach es X.env).findIdx? (·.1) = none := by rfl) (hK : X.K = K := by rfl) : PG X (.Tuple es k pos) (gTup K n t) := by
  subst hK; exact pg_tup hc h hn hst
theorem pt_truthK {a : Expr} {ta : TE} (ha : PE X a ta) (he : ∀ whole, isTrue a X.env whole = (do let v ← whole; standAt a.pos; holding [v] (truthy v)) := by intro _; rfl) (hK : X.K = K := by rfl) : PT X a (tTru K ta) := by
  subst hK; exact pt_truthN ha he
theorem pe_bmK {o e : Expr} {es : List Expr} {to : TE} {t : TA} {name : Str} {apos cpos : Pos} {T id : String} {r : V → List V → Hp → VK → Prop} (pa : PlainAttrs T) (slot : Slot T name id) (hty : typeOf (.builtin id) = pure (.type "method_descriptor")) (hm : MtR X id r) (ho : PE X o to) (ha : PA X (e :: es) t)
    (hbase : attributeBase o name X.env (eval o X.env) = eval o X.env := by rfl)
    (hfew : ((backTo cpos (starEach (e :: es) X.env)).all (fun x => !x.1) && (backToKw cpos (keywordEach [] X.env)).all (fun x => x.1.isSome)
      && decide ((e :: es).length + ([] : List Keyword).length + (if ([] : List Keyword).isEmpty then 0 else 1) < 30)) = true := by rfl)
    (hline : (apos.endLine == cpos.line) = true := by rfl) (hs : starEach (e :: es) X.env = (false, eval e X.env) :: starEach es X.env := by rfl) (hplain : (backTo cpos (starEach es X.env)).any (·.1) = false := by rfl) (hK : X.K = K := by rfl) :
    PE X (.Call (.Attribute o name apos) (e :: es) [] cpos) (tBM K T r to t) := by
  subst hK; exact pe_bm pa slot hty hm ho ha hbase hfew hline hs hplain
end
end L2
namespace L2
open PySem PySem.Spec PyProof.Rows
section
variable {K : PySem.W.Frag} {H : Hp} {Q : VK} {n : Nat}
theorem pd_tup {t : Addr} {ds : List PyData} {xs : List V} (h : SqT K H t xs) (p : Paired (PdAt K H n) ds xs) : PdAt K H (n + 1) (.tuple ds) (.ref t) := ⟨t, xs, rfl, h, p⟩
theorem pd_lst {t : Addr} {ds : List PyData} {xs : List V} (h : SqL K H t xs) (p : Paired (PdAt K H n) ds xs) : PdAt K H (n + 1) (.list ds) (.ref t) := ⟨t, xs, rfl, h, p⟩
theorem i_neSame {x y : V} (d : PyData) (hx : PdAt K H 9 d x) (hy : PdAt K H 9 d y) (q : Q (.bl false) H) : rNeP K x y H Q := ⟨d, d, hx, hy, by
  rw [PySem.SeqAt.eqv_refl d (pd_shape 9 d x hx).1]; exact q⟩
end
end L2
namespace L2
open PySem PySem.Spec PyProof.Rows
end L2


set_option Elab.async false
set_option linter.all false
set_option maxRecDepth 100000
namespace L2
open PySem PySem.Spec PyProof.Rows
/-- lo, lo - 1, .. (n of them) -/
def Itd (lo : Int) (n : Nat) : It := ⟨fun i _ => i < n, fun i H x H' => H' = H ∧ x = .int (lo - i), fun i _ => n ≤ i⟩
theorem turn_down {P : Program} {w : World} {K : PySem.W.Frag} {tg : Expr} (it : Addr) (lo : Int) (n : Nat) : Turn P w K tg (Itd lo n) [it] it (fun i h => IsRangeIter h it (lo + (i : Nat) * (-1)) ((n : Int) - (i : Nat)) (-1)) where
  mem := by simp
  obj := fun i h st b hb => by
    have e : b = it := by simpa using hb
    subst e
    exact ⟨_, st, fun v z => by
      have z' : Data.fields _ = Data.cell v := z
      cases z'⟩
  keep := fun i h h' st k => k it (by simp) _ st
  item := by
    intro X hP hw hK hc i pins s σ H E I hf st hg
    subst hP hw hK
    obtain ⟨f0, f1, f2, f3, f4, f5⟩ := hf it (by simp)
    have W := Walks.range (prog := X.prog) (w := X.w) (I.ok.hd hc) it lo (-1) n
    refine W.item i s _ _ hg st fun v h' tk hv st' kk => ?_
    obtain ⟨t, rfl⟩ := hv
    have I1 : Inv X pins σ H { s with heap := h', toks := tk } := I.turned (fun b o hb e => kk b o (by simpa using hb) e) f0 f1 f3 f4 f5
    refine ⟨_, rfl, go_of (s := { s with heap := h', toks := tk }) (n := "range_iterator") st' rfl rfl (by decide) ⟨.int (lo - i), H, I1, ⟨t, ?_⟩, ⟨rfl, rfl⟩, st', fun b hb => (hf b hb).1⟩⟩
    congr 1
    omega
  done := by
    intro X hP hw hK hc i pins s σ H E I hf st hg
    subst hP hw hK
    obtain ⟨f0, f1, f2, f3, f4, f5⟩ := hf it (by simp)
    exact wpAny_pyNext_range_end (I.ok.hd hc) st (by have : n ≤ i := hg; omega) fun h' eb => ⟨rfl, I.turned (t' := s.toks) (fun b o hb e => eb b o hb e) f0 f1 f3 f4 f5⟩
  self := fun _ _ _ _ _ st h => wpAny_pyIter_rangeiter st h
theorem rangeSize_down (a b : Int) : Builtin.Range.rangeSize a b (-1) = if a > b then a - b else 0 := by
  unfold Builtin.Range.rangeSize
  simp only [show ¬ ((-1 : Int) > 0) by decide, if_false, Int.neg_neg, Int.ediv_one]
  split <;> omega
theorem small_down {a b : Int} (ha : -(2 ^ 62) ≤ a) (ha' : a < 2 ^ 62) (hb : -(2 ^ 62) ≤ b) (hb' : b < 2 ^ 62) : Builtin.Range.small a b (-1) = true := by
  unfold Builtin.Range.small
  rw [rangeSize_down]
  simp only [Builtin.Range.rangeFitsLong, Bool.and_eq_true, Bool.or_eq_true, decide_eq_true_eq, beq_iff_eq, show ¬ ((-1 : Int) > 0) by decide, if_false]
  split <;> omega
section
variable {X : Cx} {tg : Expr}
theorem range_itd {pins : List (Addr × Obj)} {σ : St} {H : Hp} {s : Shared} {R : It → Hp → Prop} {E : Value → Shared → Prop} {lo hi : Int} {t u v : Tok} {tk : Nat} (I : Inv X pins σ H s) (h1 : -(2 ^ 62) ≤ lo) (h2 : lo < 2 ^ 62) (h3 : -(2 ^ 62) ≤ hi) (h4 : hi < 2 ^ 62)
    (q : R (Itd lo (lo - hi).toNat) H) : wpAny (model X.prog X.w) X.A (pyIter (.ref s.heap.objs.size)) (PIE X pins σ tg R) E { s with heap := s.heap.push { cls := .type "range", data := .fields #[.int lo t, .int hi u, .int (-1) v] }, toks := tk } := by
  refine wpAny_pyIter_range (IsRange.new ..) (small_down h1 h2 h3 h4) ?_
  have I1 : Inv X pins σ H { s with heap := s.heap.push { cls := .type "range", data := .fields #[.int lo t, .int hi u, .int (-1) v] }, toks := tk } := I.kept fun b o e => Heap.get?_push_of_some _ e
  refine ⟨(s.heap.push { cls := .type "range", data := .fields #[.int lo t, .int hi u, .int (-1) v] }).objs.size, [(s.heap.push { cls := .type "range", data := .fields #[.int lo t, .int hi u, .int (-1) v] }).objs.size], _, _, H, rfl,
    I1.kept (t' := tk) fun b o e => Heap.get?_push_of_some _ e, turn_down _ lo (lo - hi).toNat, ?_, fun b hb => ?_, q⟩
  · have e1 : lo + ((0 : Nat) : Int) * (-1) = lo := by simp
    have e2 : (((lo - hi).toNat : Nat) : Int) - ((0 : Nat) : Int) = Builtin.Range.rangeSize lo hi (-1) := by rw [rangeSize_down]; split <;> omega
    show IsRangeIter _ _ (lo + ((0 : Nat) : Int) * (-1)) ((((lo - hi).toNat : Nat) : Int) - ((0 : Nat) : Int)) (-1)
    rw [e1, e2]
    exact Heap.get?_push_size _ rfl
  · have e : b = (s.heap.push { cls := .type "range", data := .fields #[.int lo t, .int hi u, .int (-1) v] }).objs.size := by simpa using hb
    subst e
    exact I1.fpOk (Nat.le_refl _) (I1.hok.fresh (Nat.le_refl _))
def iRng3 (ta : TA) : TI := fun σ H R => ta σ H fun vs H1 => ∃ i j : Int, vs = [.int i, .int j, .int (-1)] ∧ (-(2 ^ 62) ≤ i ∧ i < 2 ^ 62 ∧ -(2 ^ 62) ≤ j ∧ j < 2 ^ 62) ∧ R (Itd i (i - j).toNat) H1
theorem pi_range3 {a b c : Expr} {ta : TA} {p pos : Pos} (hg : Gl X "range") (hm : X.mg "range" = none) (ha : PA X [a, b, c] ta) (hs : starEach [a, b, c] X.env = [(false, eval a X.env), (false, eval b X.env), (false, eval c X.env)] := by rfl) (hs2 : starEach [b, c] X.env = [(false, eval b X.env), (false, eval c X.env)] := by rfl) :
    PI X tg (.Call (.Name "range" p) [a, b, c] [] pos) (iRng3 ta) := by
  intro pins s σ H R I h
  refine Call_ (ld_blt I hg hm boot_range (PyProof.Rows.callWith_type1 (thn (ha pos pins s σ H _ I h) fun us s1 ⟨vs, H1, I1, r1, q1⟩ => ?_) (by rw [hs, hs2]) (by rw [hs2]; rfl)))
  obtain ⟨i, j, e, ⟨q1, q2, q3, q4⟩, q⟩ := q1
  subst e
  cases r1 with
  | cons r rr =>
    cases rr with
    | cons r' rr =>
      cases rr with
      | cons r'' rr =>
        cases rr
        obtain ⟨t, rfl⟩ := r
        obtain ⟨t', rfl⟩ := r'
        obtain ⟨t'', rfl⟩ := r''
        exact call_range_3 (by decide) (range_itd I1 q1 q2 q3 q4 q) (.inl (PyProof.noPylong_small (by omega)))
end
section
variable {K : PySem.W.Frag} {g : TG} {tb : TS} {D : Ends} {σ : St} {H : Hp}
theorem lp_down {lo : Int} {n : Nat} (Pv : Nat → St → Hp → Prop) (h0 : Pv 0 σ H)
    (hs : ∀ i σ H, i < n → Pv i σ H → g (.int (lo - i)) σ H fun σ2 H2 => tb { D with nx := Pv (i + 1), ct := Pv (i + 1), bk := D.nx } σ2 H2) (hd : ∀ σ H, Pv n σ H → D.nx σ H) : LoopI (Itd lo n) g tb D σ H := by
  refine ⟨fun i m σ H => m = n - i ∧ i ≤ n ∧ Pv i σ H, ⟨n, by simp, Nat.zero_le _, h0⟩, ?_⟩
  rintro i m σ H ⟨rfl, hi, p⟩
  by_cases hlt : i < n
  · refine .inr ⟨hlt, Pv (i + 1), fun σ' H' p' => ⟨n - (i + 1), by omega, rfl, hlt, p'⟩, fun x H' y => ?_⟩
    obtain ⟨e, y⟩ := y
    subst e y
    exact hs i σ _ hlt p
  · have e : i = n := by omega
    subst e
    exact .inl ⟨Nat.le_refl _, hd σ H p⟩
end
section
variable {X : Cx} (K : PySem.W.Frag)
/-- all of a list of truths -/
def rAll (K : PySem.W.Frag) : List V → Hp → VK → Prop := fun xs H Q => ∃ (p : Addr) (bs : List Bool), xs = [.ref p] ∧ SqL K H p (bs.map V.bl) ∧ Q (.bl (bs.all id)) H
/-- is, is not of truths -/
def rIsB (neg : Bool) : R2 := fun x y H Q => ∃ a b : Bool, x = .bl a ∧ y = .bl b ∧ Q (.bl (if neg then !decide (a = b) else decide (a = b))) H
theorem i_isB {a b : Bool} {H : Hp} {Q : VK} (q : Q (.bl (decide (a = b))) H) : rIsB false (.bl a) (.bl b) H Q := ⟨a, b, rfl, rfl, q⟩
theorem i_isNotB {a b : Bool} {H : Hp} {Q : VK} (q : Q (.bl (!decide (a = b))) H) : rIsB true (.bl a) (.bl b) H Q := ⟨a, b, rfl, rfl, q⟩
end
end L2

set_option Elab.async false
set_option linter.all false
set_option maxRecDepth 100000
/-! An exception on its way through the frames, with its own dict known to be none. -/
namespace L2
open PySem PySem.Spec PyProof.Rows
theorem dict_mapFields (o : Obj) (g : Array Value → Array Value) : (o.mapFields g).dict = o.dict := by
  rcases o with ⟨c, d, dt, sl⟩
  cases dt <;> rfl
/-- the exception at e and the head of its trace -/
def TrD (h B : Heap) (e : Addr) (cls fl : Value) : Prop :=
  ∃ oe vs T oT ts, h.get? e = some oe ∧ (oe.cls = cls ∧ oe.dict = none) ∧ oe.data = .fields vs ∧ vs[1]? = some (.ref T) ∧ B.get? T = none ∧ T ≠ e ∧ h.get? T = some oT ∧ oT.data = .fields ts ∧ ts[3]? = some fl
structure FlyAt (B : Heap) (l : List Env) (e : Addr) (cls fl : Value) (h : Heap) : Prop where
  st : B.StaysIn h
  ne : B.get? e = none
  fr : h.FunFrames B l
  tr : TrD h B e cls fl
abbrev Fly (B : Heap) (l : List Env) (e : Addr) (cls : Value) (h : Heap) : Prop := FlyAt B l e cls .none h
theorem FlyAt.there {B : Heap} {l : List Env} {e : Addr} {cls fl : Value} {h : Heap} (x : FlyAt B l e cls fl h) : ∃ o vs, h.get? e = some o ∧ o.cls = cls ∧ o.dict = none ∧ o.data = .fields vs := by
  obtain ⟨oe, vs, T, oT, ts, h1, ⟨h2, h3⟩, h4, _⟩ := x.tr
  exact ⟨oe, vs, h1, h2, h3, h4⟩
section
variable {M : Model} {A : Around} {E : Value → Shared → Prop} {s : Shared} {B : Heap} {env : Env} {outer : List Env} {L e : Addr}
theorem fly_entry {oe : Obj} {vs : Array Value} {head : Value} {had : Bool} {Q : Unit → Shared → Prop} (hfr : A.frames = some (env :: outer)) (hl : s.heap.FunFrames B (env :: outer)) (hf : env.frame = some L) (he : s.heap.get? e = some oe) (hB : B.StaysIn s.heap) (hn : B.get? e = none) (hd : oe.data = .fields vs) (hz : 1 < vs.size) (hdn : oe.dict = none)
    (k : ∀ h', FlyAt B (env :: outer) e oe.cls (rawInt L) h' → s.heap.UpToSlots h' → Q () { s with heap := h' }) :
    wpAny M A (do let fr ← frameOf env; let pl ← entryPlaceOf L had; let tb ← EntryCells.newEntry head fr .none (rawInt L) .none pl; setField (.ref e) 1 tb) Q E s := by
  have noFr : e ∉ (env :: outer).filterMap (·.frame) := fun hm => by
    obtain ⟨_, ob, hob, hno⟩ := hl.mem hm
    rw [he] at hob
    cases hob
    exact hno vs hd
  refine wpAny_bind (wpAny_frameOf_fun hfr hl hf fun ha sa => ?_)
  refine wpAny_bind (wpAny_entryPlaceOf fun pl hpl => ?_)
  unfold EntryCells.newEntry newFields
  refine wpAny_bind (wpAny_newObj_type ?_ (hpl.sizeOk5 _ _ _ _ _))
  have ea : ha.get? e = some oe := by rw [sa.2.1 e noFr]; exact he
  have Ba : B.StaysIn ha := fun b o z => by
    rw [sa.2.1 b fun hm => by rw [(hl.mem hm).1] at z; cases z]
    exact hB b o z
  generalize hO : ({ cls := .type "traceback", dict := none, data := .fields ([head, .ref L, .none, rawInt L, .none] ++ (if pl.isEmpty then List.replicate 6 Value.none else pl)).toArray } : Obj) = oT
  have hOd : oT.data = .fields ([head, .ref L, .none, rawInt L, .none] ++ (if pl.isEmpty then List.replicate 6 Value.none else pl)).toArray := by rw [← hO]
  have hOf : oT.isFreed = false := Obj.isFreed_of_fields hOd
  have eb : (ha.push oT).get? e = some oe := Heap.get?_push_of_some _ ea
  have Tb : (ha.push oT).get? ha.objs.size = some oT := Heap.get?_push_size _ hOf
  have Te : ha.objs.size ≠ e := fun z => by rw [← z] at ea; exact absurd (Heap.lt_size ea) (Nat.lt_irrefl _)
  refine wpAny_setField eb hd hz (k _ ?_ ?_)
  · have md := Obj.data_mapFields hd (·.setIfInBounds 1 (Value.ref ha.objs.size))
    have ec := Heap.get?_update_self (Obj.mapFields (·.setIfInBounds 1 (Value.ref ha.objs.size))) eb (Obj.isFreed_of_fields md)
    have Tc : ((ha.push oT).update e (Obj.mapFields (·.setIfInBounds 1 (Value.ref ha.objs.size)))).get? ha.objs.size = some oT := by rw [Heap.get?_update_other _ _ (Ne.symm Te)]; exact Tb
    have kc : ∀ b o, b ≠ e → ha.get? b = some o → ((ha.push oT).update e (Obj.mapFields (·.setIfInBounds 1 (Value.ref ha.objs.size)))).get? b = some o := fun b o nb z => by
      rw [Heap.get?_update_other _ _ (Ne.symm nb)]
      exact Heap.get?_push_of_some _ z
    refine ⟨fun b o z => kc b o (fun q => by rw [q, hn] at z; cases z) (Ba b o z), hn, hl.of_keeps fun b o z hno => ?_, ⟨_, _, ha.objs.size, oT, _, ec, ⟨Obj.cls_mapFields _ _, (dict_mapFields _ _).trans hdn⟩, md, by simp [hz], ?_, Te, Tc, hOd, ?_⟩⟩
    · obtain ⟨sl, z2⟩ := sa.2.2 b o z
      exact ⟨_, kc b _ (fun q => by rw [q, he] at z; cases z; exact hno vs hd) z2, rfl⟩
    · cases q : B.get? ha.objs.size with
      | none => rfl
      | some o => exact absurd (Heap.lt_size (Ba _ _ q)) (Nat.lt_irrefl _)
    · rcases hpl with rfl | ⟨_, _, _, _, _, _, _, rfl⟩ <;> simp
  · intro b o z hno
    obtain ⟨sl, z2⟩ := sa.2.2 b o z
    refine ⟨sl, ?_⟩
    have nb : b ≠ e := fun q => by rw [q, he] at z; cases z; exact hno vs hd
    show ((ha.push oT).update e _).get? b = _
    rw [Heap.get?_update_other _ _ (Ne.symm nb)]
    exact Heap.get?_push_of_some _ z2
/-- the head's flight is set to none -/
theorem fly_lands {l : List Env} {cls fl : Value} {Q : Unit → Shared → Prop} (x : FlyAt B l e cls fl s.heap) (k : ∀ h', Fly B l e cls h' → s.heap.UpToSlots h' → Q () { s with heap := h' }) : wpAny M A (setFlight (.ref e) none) Q E s := by
  obtain ⟨x1, x2, x3, oe, vs, T, oT, ts, t1, t2, t3, t4, t5, t6, t7, t8, t9⟩ := x
  have sz : 3 < ts.size := (Array.getElem?_eq_some_iff.mp t9).1
  unfold setFlight
  refine wpAny_bind (wpAny_field t1 t3 t4 ?_)
  rw [if_pos (by simp)]
  have oth : ∀ b, b ≠ T → (s.heap.update T (Obj.mapFields (·.setIfInBounds 3 Value.none))).get? b = s.heap.get? b := fun b nb => Heap.get?_update_other _ _ (Ne.symm nb)
  have rec0 : ∀ b o, s.heap.get? b = some o → (∀ us, o.data ≠ .fields us) → b ≠ T := fun b o z hno q => by rw [q, t7] at z; cases z; exact hno ts t8
  refine wpAny_setField t7 t8 sz (k _ ⟨fun b o z => ?_, x2, x3.of_keeps fun b o z hno => ⟨o, (oth b (rec0 b o z hno)).trans z, rfl⟩, oe, vs, T, _, _, (oth e (Ne.symm t6)).trans t1, t2, t3, t4, t5, t6, Heap.get?_update_self _ t7 (Obj.isFreed_of_fields (Obj.data_mapFields t8 _)), Obj.data_mapFields t8 _, by simp [sz]⟩ fun b o z hno => ⟨o.slots, (oth b (rec0 b o z hno)).trans z⟩)
  exact (oth b fun q => by rw [q, t5] at z; cases z).trans (x1 b o z)
/-- a frame is noted, further on -/
theorem fly_looks {cls : Value} {Q : Unit → Shared → Prop} (hfr : A.frames = some (env :: outer)) (hf : env.frame = some L) (x : Fly B (env :: outer) e cls s.heap) (k : ∀ h', FlyAt B (env :: outer) e cls (rawInt L) h' → s.heap.UpToSlots h' → Q () { s with heap := h' }) : wpAny M A (noteFrame (.ref e) env) Q E s := by
  obtain ⟨x1, x2, x3, oe, vs, T, oT, ts, t1, ⟨rfl, tdn⟩, t3, t4, t5, t6, t7, t8, t9⟩ := x
  unfold noteFrame
  simp only [hf]
  refine wpAny_bind (wpAny_field t1 t3 t4 ?_)
  rw [if_pos (by simp)]
  refine wpAny_bind (wpAny_field t7 t8 t9 ?_)
  rw [if_neg (by simp [rawInt])]
  refine wpAny_bind (wpAny_setField t7 t8 (Array.getElem?_eq_some_iff.mp t9).1 ?_)
  have oth : ∀ b, b ≠ T → (s.heap.update T (Obj.mapFields (·.setIfInBounds 3 Value.none))).get? b = s.heap.get? b := fun b nb => Heap.get?_update_other _ _ (Ne.symm nb)
  have rec0 : ∀ b o, s.heap.get? b = some o → (∀ us, o.data ≠ .fields us) → b ≠ T := fun b o z hno q => by rw [q, t7] at z; cases z; exact hno ts t8
  refine fly_entry (s := { s with heap := s.heap.update T (Obj.mapFields (·.setIfInBounds 3 Value.none)) }) hfr (x3.of_keeps fun b o z hno => ⟨o, (oth b (rec0 b o z hno)).trans z, rfl⟩) hf ((oth e (Ne.symm t6)).trans t1)
    (fun b o z => (oth b fun q => by rw [q, t5] at z; cases z).trans (x1 b o z)) x2 t3 (Array.getElem?_eq_some_iff.mp t4).1 tdn fun h' f u => k h' f fun b o z hno => u b o ((oth b (rec0 b o z hno)).trans z) hno
theorem fly_out {l : List Env} {cls fl : Value} {h : Heap} (x : FlyAt B (env :: l) e cls fl h) : FlyAt B l e cls fl h := ⟨x.st, x.ne, x.fr.2.2, x.tr⟩
/-- an exception goes on through a frame -/
theorem fly_on {cls : Value} {Q : Unit → Shared → Prop} (hfr : A.frames = some (env :: outer)) (hf : env.frame = some L) (x : Fly B (env :: outer) e cls s.heap) (k : ∀ h', Fly B outer e cls h' → s.heap.UpToSlots h' → Q () { s with heap := h' }) : wpAny M A (leaving env (.ref e)) Q E s := by
  unfold leaving
  refine wpAny_bind (fly_looks hfr hf x fun h1 f1 u1 => ?_)
  exact fly_lands (s := { s with heap := h1 }) f1 fun h2 f2 u2 => k h2 (fly_out f2) (u1.trans u2)
/-- a new exception leaves its first frame -/
theorem fly_made {h : Heap} {cls : Value} {args : List Value} {Q : Unit → Shared → Prop} (hfr : A.frames = some (env :: outer)) (hf : env.frame = some L) (hB : B.StaysIn h) (hl : h.FunFrames B (env :: outer)) (hx : Heap.MadeExcOf h s.heap e cls args)
    (k : ∀ h', Fly B outer e cls h' → s.heap.UpToSlots h' → Q () { s with heap := h' }) : wpAny M A (leaving env (.ref e)) Q E s := by
  obtain ⟨t, he, _, _⟩ := hx.there
  have hn : B.get? e = none := by
    cases q : B.get? e with
    | none => rfl
    | some o =>
      have := hB e o q
      rw [hx.new] at this
      cases this
  unfold leaving noteFrame
  simp only [hf]
  refine wpAny_bind (wpAny_bind (wpAny_field he rfl (x := .none) rfl ?_))
  rw [if_neg (by decide)]
  refine fly_entry hfr (hl.of_keeps fun b o z _ => ⟨o, hx.keeps b o z, rfl⟩) hf he (fun b o z => hx.keeps b o (hB b o z)) hn rfl (by simp) rfl fun h1 f1 u1 => ?_
  exact fly_lands (s := { s with heap := h1 }) f1 fun h2 f2 u2 => k h2 (fly_out f2) (u1.trans u2)
end
end L2

set_option Elab.async false
set_option linter.all false
set_option maxRecDepth 100000
/-! Exceptions over the layer: an exception that a call lets out, and how it leaves the frames. (Part of a road that is not finished: see NOTES.md.) -/
namespace L2
open PySem PySem.Spec PyProof.Rows
section
variable {P : Program} {w : World} {H : Hp} {h h' : Heap} {a : Addr} {o : HO}
theorem ObjOk.there (x : ObjOk P w H h a o) : ∃ ob, h.get? a = some ob := by
  cases o with
  | lst xs => obtain ⟨_, _, _, _, e⟩ := x; exact ⟨_, e⟩
  | tup xs => obtain ⟨_, _, _, ob, e, _⟩ := x; exact ⟨_, e⟩
  | dK kvs => obtain ⟨_, _, _, _, o, _, _, e, _⟩ := x; exact ⟨_, e⟩
  | dT kvs => obtain ⟨_, _, _, _, o, _, _, e, _⟩ := x; exact ⟨_, e⟩
  | set S n => obtain ⟨o, _, _, _, e, _⟩ := x; exact ⟨_, e⟩
  | ins C dx fs => obtain ⟨_, _, _, e, _⟩ := x; exact ⟨_, e⟩
  | own y => obtain ⟨_, e⟩ := x; exact ⟨_, e⟩
  | xd fs => obtain ⟨_, ⟨_, _, _, e, _⟩, _⟩ := x; exact ⟨_, e⟩
  | rng lo hi => obtain ⟨_, _, _, e⟩ := x; exact ⟨_, e⟩
  | frz ob u => obtain ⟨e, _⟩ := x; exact ⟨_, e⟩
  | tbl ps => exact ⟨_, (show h.get? a = some _ from x)⟩
  | met f y => exact ⟨_, (show h.get? a = some _ from x)⟩
  | ext φ => obtain ⟨_, e, _⟩ := x; exact e
/-- only the tracked objects count -/
theorem HOk.tracked (x : HOk P w H h) (k : ∀ b u, H b ≠ none → h.get? b = some u → h'.get? b = some u) : HOk P w H h' := fun b u e =>
  (x b u e).stay (fun c v hc q => k c v (by rcases hc with z | z <;> rw [z] <;> simp_all) q) (fun _ z => z) (fun _ _ z => z)
end
/-- an exception behind a call: a new object e of class cls; B keeps all that was there but the frames -/
def CXE (P : Program) (w : World) : CXT := fun outer H s E v s' => ∃ (e : Addr) (cls : Value) (B : Heap) (H' : Hp), v = .ref e ∧ s'.os = s.os ∧ AllBare s'.gens ∧ Un (frs outer) [] H H' s.heap s'.heap ∧ HOk P w H' s'.heap ∧
  Fly B outer e cls s'.heap ∧ (∀ b o, s.heap.get? b = some o → b ∉ frs outer → ∃ o', B.get? b = some o') ∧ (∀ b, H' b ≠ none → ∃ o, B.get? b = some o) ∧ E cls none H'
section
variable {P : Program} {w : World} {K : PySem.W.Frag} {mg : Str → Option Value} {base : Heap} {N : List Str} {qual : Str} {scope : Scope} {f : Addr} {cd : Value} {A : Around} {outer : List Env} {s : Shared} {H : Hp} {E : XK}
/-- a new exception leaves the body -/
theorem xe_made {pins : List (Addr × Obj)} {σ : St} {H1 : Hp} {s1 : Shared} {h1 : Heap} {e : Addr} {cls : Value} {vs : List Value}
    (I : Inv ((cxOf (CXE P w) P w K mg base N qual scope f cd A outer s H E)) pins σ H1 s1) (hx : Heap.MadeExcOf s1.heap h1 e cls vs) (q : E cls none H1) :
    (cxOf (CXE P w) P w K mg base N qual scope f cd A outer s H E).xe (.ref e) { s1 with heap := h1 } := by
  have hst : s1.heap.FunFrames base (envOfC qual scope s.heap.objs.size f cd :: outer) := I.stack
  have hfr : (A.deeper (envOfC qual scope s.heap.objs.size f cd)).frames = some (envOfC qual scope s.heap.objs.size f cd :: outer) := I.ok.frames
  have hin : ∀ env ∈ (envOfC qual scope s.heap.objs.size f cd :: outer), ∀ b, env.frame = some b → b ∈ frs (envOfC qual scope s.heap.objs.size f cd :: outer) := fun env he b hb => List.mem_filterMap.mpr ⟨env, he, hb⟩
  have hB := PySem.W.funFrames_hide hst hin
  have hloc : (envOfC qual scope s.heap.objs.size f cd).frame = some s.heap.objs.size := rfl
  have hfree : ∀ b ∈ frs (envOfC qual scope s.heap.objs.size f cd :: outer), H1 b = none := I.stkFree
  have hcons : frs (envOfC qual scope s.heap.objs.size f cd :: outer) = s.heap.objs.size :: frs outer := by unfold frs; rw [List.filterMap_cons, hloc]
  refine fly_made (B := PySem.W.hideAll s1.heap (frs (envOfC qual scope s.heap.objs.size f cd :: outer))) hfr hloc (fun b o z => PySem.W.of_hideAll _ z) hB hx fun h2 k1 k4 => ?_
  generalize hBB : PySem.W.hideAll s1.heap (frs (envOfC qual scope s.heap.objs.size f cd :: outer)) = B at *
  have toB : ∀ b o, s1.heap.get? b = some o → b ∉ frs (envOfC qual scope s.heap.objs.size f cd :: outer) → B.get? b = some o := fun b o z n => by rw [← hBB]; exact PySem.W.hideAll_get _ z n
  have keepAll : ∀ b o, s1.heap.get? b = some o → b ∉ frs (envOfC qual scope s.heap.objs.size f cd :: outer) → h2.get? b = some o := fun b o z n => k1.st b o (toB b o z n)
  have base0 : Un (frs outer) [] H H1 s.heap s1.heap := I.base
  have notLoc : ∀ b o, s.heap.get? b = some o → b ∉ frs outer → b ∉ frs (envOfC qual scope s.heap.objs.size f cd :: outer) := fun b o z n hm => by
    rw [hcons] at hm
    rcases List.mem_cons.mp hm with e | e
    · exact absurd (Heap.lt_size z) (by rw [e]; exact Nat.lt_irrefl _)
    · exact n e
  have trackedB : ∀ b u, H1 b = some u → ∃ o, B.get? b = some o := fun b u z => by
    obtain ⟨o, ho⟩ := (I.hok b u z).there
    exact ⟨o, toB b o ho fun hm => by rw [hfree b hm] at z; cases z⟩
  refine ⟨e, cls, B, H1, rfl, I.os, I.bare, ?_, ?_, k1, ?_, ?_, q⟩
  · refine ⟨fun b o z n hb hx' => keepAll b o (base0.keep b o z n hb hx') (notLoc b o z hb), fun b o z n hb hx' => ?_, base0.free, fun b o z hx' => ?_, base0.tups, base0.frzs, base0.tbls⟩
    · obtain ⟨sl, z1⟩ := base0.slot b o z n hb hx'
      have hm : b ∈ frs (envOfC qual scope s.heap.objs.size f cd :: outer) := by rw [hcons]; exact List.mem_cons_of_mem _ hb
      obtain ⟨_, o', ho', hd⟩ := hst.mem hm
      rw [z1] at ho'
      cases ho'
      obtain ⟨sl2, z2⟩ := k4 b _ (hx.keeps b _ z1) hd
      exact ⟨sl2, z2⟩
    · obtain ⟨o1, z1⟩ := base0.there b o z hx'
      by_cases hm : b ∈ frs (envOfC qual scope s.heap.objs.size f cd :: outer)
      · obtain ⟨_, o', ho', hd⟩ := hst.mem hm
        rw [z1] at ho'
        cases ho'
        obtain ⟨sl2, z2⟩ := k4 b _ (hx.keeps b _ z1) hd
        exact ⟨_, z2⟩
      · exact ⟨o1, keepAll b o1 z1 hm⟩
  · exact HOk.tracked I.hok fun b u n z => keepAll b u z fun hm => n (hfree b hm)
  · intro b o z n
    obtain ⟨o1, z1⟩ := base0.there b o z (by simp)
    exact ⟨o1, toB b o1 z1 (notLoc b o z n)⟩
  · intro b n
    cases z : H1 b with
    | none => exact absurd z n
    | some u => exact trackedB b u z
/-- an exception of a callee leaves the body -/
theorem pass_exc {E' : XK} (hE : ∀ c d H', E' c d H' → E c d H') : Passes (CXE P w) (cxOf (CXE P w) P w K mg base N qual scope f cd A outer s H E) E' := by
  rintro pins σ H1 s1 v s2 I ⟨e, cls, B, H2, rfl, os, bare, un, hok, hfl, hfresh, htr, q⟩
  have hst : s1.heap.FunFrames base (envOfC qual scope s.heap.objs.size f cd :: outer) := I.stack
  have hfr : (A.deeper (envOfC qual scope s.heap.objs.size f cd)).frames = some (envOfC qual scope s.heap.objs.size f cd :: outer) := I.ok.frames
  have hloc : (envOfC qual scope s.heap.objs.size f cd).frame = some s.heap.objs.size := rfl
  have hcons : frs (envOfC qual scope s.heap.objs.size f cd :: outer) = s.heap.objs.size :: frs outer := by unfold frs; rw [List.filterMap_cons, hloc]
  have base0 : Un (frs outer) [] H H1 s.heap s1.heap := I.base
  have un' : Un (frs (envOfC qual scope s.heap.objs.size f cd :: outer)) [] H1 H2 s1.heap s2.heap := un
  have hfl' : Fly B (envOfC qual scope s.heap.objs.size f cd :: outer) e cls s2.heap := hfl
  have hfresh' : ∀ b o, s1.heap.get? b = some o → b ∉ frs (envOfC qual scope s.heap.objs.size f cd :: outer) → ∃ o', B.get? b = some o' := hfresh
  have hfree : ∀ b ∈ frs (envOfC qual scope s.heap.objs.size f cd :: outer), H1 b = none := I.stkFree
  refine fly_on (s := s2) hfr hloc hfl' fun h3 k1 k2 => ?_
  have notLoc : ∀ b o, s.heap.get? b = some o → b ∉ frs outer → b ∉ frs (envOfC qual scope s.heap.objs.size f cd :: outer) := fun b o z n hm => by
    rw [hcons] at hm
    rcases List.mem_cons.mp hm with e | e
    · exact absurd (Heap.lt_size z) (by rw [e]; exact Nat.lt_irrefl _)
    · exact n e
  have inB : ∀ b o, s2.heap.get? b = some o → (∃ o', B.get? b = some o') → h3.get? b = some o := fun b o z ⟨o', z'⟩ => by
    have := hfl'.st b o' z'
    rw [z] at this
    cases this
    exact k1.st b o z'
  refine ⟨e, cls, B, H2, rfl, os.trans I.os, bare, ?_, ?_, k1, ?_, htr, hE _ _ _ q⟩
  · refine ⟨fun b o z n hb hx' => ?_, fun b o z n hb hx' => ?_, fun b o z n hx' => ?_, fun b o z hx' => ?_, fun b xs z => un'.tups b xs (base0.tups b xs z), fun b o u z => un'.frzs b o u (base0.frzs b o u z), fun b ps z => ?_⟩
    · have z1 := base0.keep b o z n hb hx'
      have n1 := base0.free b o z n hx'
      have nb := notLoc b o z hb
      exact inB b o (un'.keep b o z1 n1 nb hx') (hfresh' b o z1 nb)
    · obtain ⟨sl, z1⟩ := base0.slot b o z n hb hx'
      have n1 := base0.free b o z n hx'
      have hm : b ∈ frs (envOfC qual scope s.heap.objs.size f cd :: outer) := by rw [hcons]; exact List.mem_cons_of_mem _ hb
      obtain ⟨sl2, z2⟩ := un'.slot b _ z1 n1 hm hx'
      obtain ⟨_, o', ho', hd⟩ := hst.mem hm
      rw [z1] at ho'
      cases ho'
      obtain ⟨sl3, z3⟩ := k2 b _ z2 hd
      exact ⟨sl3, z3⟩
    · obtain ⟨sl, z1⟩ := base0.any z n hx'
      exact un'.free b _ z1 (base0.free b o z n hx') hx'
    · obtain ⟨o1, z1⟩ := base0.there b o z hx'
      obtain ⟨o2, z2⟩ := un'.there b o1 z1 hx'
      by_cases hm : b ∈ frs (envOfC qual scope s.heap.objs.size f cd :: outer)
      · obtain ⟨_, o', ho', hd⟩ := hfl'.fr.mem hm
        rw [z2] at ho'
        cases ho'
        obtain ⟨sl3, z3⟩ := k2 b _ z2 hd
        exact ⟨_, z3⟩
      · exact ⟨o2, inB b o2 z2 (hfresh' b o1 z1 hm)⟩
    · obtain ⟨m1, z1⟩ := base0.tbls b ps z
      obtain ⟨m2, z2⟩ := un'.tbls b _ z1
      exact ⟨m1 ++ m2, by rw [z2, Array.append_assoc]⟩
  · exact HOk.tracked hok fun b u n z => inB b u z (htr b n)
  · intro b o z n
    obtain ⟨o1, z1⟩ := base0.there b o z (by simp)
    exact hfresh' b o1 z1 (notLoc b o z n)
end
end L2
namespace L2
open PySem PySem.Spec PyProof.Rows
/-! ### raise of an own class -/
theorem exc_obj {K : PySem.W.Frag} {h : Heap} {C : Addr} {bmB : List Value} {newId : String} (kin : K.In h) (hq : PySem.W.excIn K C bmB newId = true) :
    ∃ bm nsp nm qn bs hd sn sub ab col dd k0 k1 k2 k3 k5 mN, h.get? C = some (excClassObj nm qn C nsp bs bm hd sn sub ab col dd k0 k1 k2 k3 k5 newId) ∧ h.Ns nsp mN ∧ mN "__init__" = none ∧ OwnTail h bmB bm := by
  unfold PySem.W.excIn at hq
  split at hq
  case h_2 => cases hq
  case h_1 dd cd sl look =>
    split at hq
    case h_2 => cases hq
    case h_1 C' bm k0 k1 k2 k3 n k5 mroE slE =>
      simp only [Bool.and_eq_true, beq_iff_eq, Bool.not_eq_true'] at hq
      obtain ⟨⟨⟨⟨⟨c1, c2⟩, c3⟩, c4⟩, c5⟩, c6⟩ := hq
      subst c1 c2
      rcases cd with ⟨nm, bs, mro, nsp, qn, hd, sn, sub, ab, col, del⟩
      dsimp only at mroE c3 c5 c6
      subst mroE c3
      have slA : sl = #[k0, k1, k2, k3, some (.builtin n), k5] := by
        rcases sl with ⟨lst⟩
        exact congrArg Array.mk slE
      subst slA
      exact ⟨bm, nsp, nm, qn, bs, hd, sn, sub, ab, col, dd, k0, k1, k2, k3, k5, _, kin _ _ look, .of_isNs (PySem.W.isNs_of_in kin c5), PySem.W.nsMap_none_of_in kin c5 c6, PySem.W.tail_of_in kin c4⟩
/-- what holds of an own class under a built-in exception -/
structure ExcCls (K : PySem.W.Frag) (mg : Str → Option Value) (x : Str) (C : Addr) (bmB : List Value) (newId : String) : Prop where
  at_ : mg x = some (.ref C)
  obj : PySem.W.excIn K C bmB newId = true
/-- raise x(e, ..): E of the class -/
def tRaise (C : Addr) (E : XK) (t : TA) : TS := fun _ σ H => t σ H fun vs H1 => vs.length ≤ 3 ∧ E (.ref C) none H1
section
variable {P : Program} {w : World} {K : PySem.W.Frag} {mg : Str → Option Value} {base : Heap} {N : List Str} {qual : Str} {scope : Scope} {f : Addr} {cd : Value} {A : Around} {outer : List Env} {s : Shared} {H : Hp} {E : XK}
theorem ps_raise {x : Str} {C : Addr} {bmB : List Value} {B newId initId : String} {np cpos pos : Pos} {e0 : Expr} {es : List Expr} {t : TA} (hc : ExcCls K mg x C bmB newId) (F : ExcBaseFacts B newId initId bmB)
    (hg : Gl (cxOf (CXE P w) P w K mg base N qual scope f cd A outer s H E) x) (ha : PA (cxOf (CXE P w) P w K mg base N qual scope f cd A outer s H E) (e0 :: es) t)
    (he : starEach (e0 :: es) (envOfC qual scope s.heap.objs.size f cd) = (false, eval e0 (envOfC qual scope s.heap.objs.size f cd)) :: starEach es (envOfC qual scope s.heap.objs.size f cd) := by rfl)
    (hpl : (backTo cpos (starEach es (envOfC qual scope s.heap.objs.size f cd))).any (·.1) = false := by rfl) (hdb : (x == ("__debug__" : Str)) = false := by decide) :
    PS (cxOf (CXE P w) P w K mg base N qual scope f cd A outer s H E) (.Raise (some (.Call (.Name x np) (e0 :: es) [] cpos)) none pos) (tRaise C E t) := by
  intro pins s1 σ H1 D I q
  obtain ⟨bm, nsp, nm, qn, bs, hd, sn, sub, ab, col, dd, k0, k1, k2, k3, k5, mN, o1, o2, o3, o4⟩ := exc_obj I.ok.mod.kin hc.obj
  refine wpAny_Raise_call_subT F (o4.hasType F.hasBase) (I.ok.hd rfl) (by
    show (backTo cpos (starEach (e0 :: es) (envOfC qual scope s.heap.objs.size f cd))).any (·.1) = false
    rw [he]; show (false || (backTo cpos (starEach es (envOfC qual scope s.heap.objs.size f cd))).any (·.1)) = false; rw [hpl]; rfl) o3 ?_ (nm := nm) (q := qn) (C := C) (N := nsp) (bs := bs) (bm := bm) (hdct := hd) (sn := sn) (sub := sub) (ab := ab) (col := col) (dd := dd) (k0 := k0) (k1 := k1) (k2 := k2) (k3 := k3) (k5 := k5)
  refine ld_glob I hg hc.at_ ⟨rfl, ?_⟩ hdb
  have hs := ha cpos pins s1 σ H1 _ I q
  show wpAny _ _ (evalArgs (.ref C) true (backTo cpos (starEach (e0 :: es) (envOfC qual scope s.heap.objs.size f cd))) []) _ _ _
  change wpAny _ _ (spliced (backTo cpos (starEach (e0 :: es) (envOfC qual scope s.heap.objs.size f cd)))) _ _ _ at hs
  rw [he] at hs ⊢
  refine Calls.evalArgs_plain (wpAny_mono hs (fun us s2 h2 => ?_) fun _ _ z => z)
  obtain ⟨vs, H2, I2, r2, hl, q2⟩ := h2
  have hul : us.length ≤ 3 := by rw [← r2.length]; exact hl
  exact ⟨rfl, Nat.le_trans hul (by rw [sizeLine_eq]; decide), I2.bk _ _ o1, o2.keeps I2.bk, o4.keeps I2.bk, fun h' e hm => xe_made I2 hm q2⟩
/-- a call of a def that may raise, in such a def -/
def CalleeE (P : Program) (w : World) (K : PySem.W.Frag) (mg : Str → Option Value) (base : Heap) (x : Str) (k : Nat) (sp : Sp) : Prop :=
  ∃ f fd ps, FnOk P w K mg base (CXE P w) k f fd ps sp ∧ mg x = some (.ref f) ∧ PySem.W.keepIn K (.ref f) = true ∧ Binds K fd ps []
theorem Def.okE {x : Str} {st : Stmt} {N ps : List Str} {k : Nat} {sp : Sp} (D : Def K mg x st) (S : FnScope N ps (defScope st))
    (bd : ∀ (kV doc pm : Value) (an : Option Addr) (cdv ct : Value) (us : List Value), us.length = ps.length → bindArgs (PySem.W.fnOf x x (defArgs st) (defBody st) (defScope st) .none kV doc pm an cdv ct) ⟨us, []⟩ = pure (ps.zip us))
    (len : ∀ vs H Q E, sp vs H Q E → vs.length = ps.length)
    (hbody : ∀ (f : Addr) (cdv : Value) (A : Around) (outer : List Env) (s : Shared) (H : Hp) (vs : List V) (Q : VK) (E : XK), Room k (A.deeper (envOfC x (defScope st) s.heap.objs.size f cdv)) → sp vs H Q E →
      ∃ t, PSs (cxOf (CXE P w) P w K mg base N x (defScope st) f cdv A outer s H E) (defBody st) t ∧ t { nx := fun _ H' => Q .non H', rt := Q } (start N vs) H) : CalleeE P w K mg base x (k + 1) sp := by
  obtain ⟨f, fd, F, hm⟩ := D
  have Fk := F.kp
  have Fb := F.binds bd
  obtain ⟨oc, od, kV, doc, pm, an, cdv, ct, osl, rfl, lk, hcd⟩ := F.ex
  exact ⟨f, _, ps, fn_of lk hcd S len fun A outer s H vs Q E hr hsp => hbody f cdv A outer s H vs Q E hr hsp, hm, Fk, Fb⟩
theorem pe_callE {x : Str} {k : Nat} {sp : Sp} {e0 : Expr} {es : List Expr} {t : TA} {p pos : Pos} {E' : XK} (C : CalleeE P w K mg base x k sp) (hr : Room k (A.deeper (envOfC qual scope s.heap.objs.size f cd))) (hg : Gl (cxOf (CXE P w) P w K mg base N qual scope f cd A outer s H E) x)
    (ha : PA (cxOf (CXE P w) P w K mg base N qual scope f cd A outer s H E) (e0 :: es) t) (hE : ∀ c d H', E' c d H' → E c d H' := by exact fun _ _ _ z => z)
    (he : starEach (e0 :: es) (envOfC qual scope s.heap.objs.size f cd) = (false, eval e0 (envOfC qual scope s.heap.objs.size f cd)) :: starEach es (envOfC qual scope s.heap.objs.size f cd) := by rfl)
    (hpl : (backTo pos (starEach es (envOfC qual scope s.heap.objs.size f cd))).any (·.1) = false := by rfl) (hdb : (x == ("__debug__" : Str)) = false := by decide) :
    PE (cxOf (CXE P w) P w K mg base N qual scope f cd A outer s H E) (.Call (.Name x p) (e0 :: es) [] pos) (tCall sp [] E' t) := by
  obtain ⟨f', fd, ps, F, hm, hk, hb⟩ := C
  exact pe_call F hr hg hm hk hb .nil (pass_exc hE) ha (hdb := hdb) (he := he) (hpl := hpl)
end
end L2

set_option Elab.async false
set_option linter.all false
set_option maxRecDepth 100000
/-! A call within a try: the way of an exception up to the clause. (Not finished: the clause's suite, and calls within it, are to come; see NOTES.md.) -/
namespace L2
open PySem PySem.Spec PyProof.Rows
section
/-- what stays while the exception is looked at -/
theorem un_fly {l : List Env} {H1 H2 : Hp} {h1 h2 h3 B : Heap} (u : Un (frs l) [] H1 H2 h1 h2) (hs : B.StaysIn h2) (hf : h2.FunFrames B l) (hfresh : ∀ b o, h1.get? b = some o → b ∉ frs l → ∃ o', B.get? b = some o') (k1 : B.StaysIn h3) (k2 : h2.UpToSlots h3) : Un (frs l) [] H1 H2 h1 h3 := by
  have inB : ∀ b o, h2.get? b = some o → (∃ o', B.get? b = some o') → h3.get? b = some o := fun b o z ⟨o', z'⟩ => by
    have := hs b o' z'
    rw [z] at this
    cases this
    exact k1 b o z'
  refine ⟨fun b o z n hb hx => inB b o (u.keep b o z n hb hx) (hfresh b o z hb), fun b o z n hb hx => ?_, u.free, fun b o z hx => ?_, u.tups, u.frzs, u.tbls⟩
  · obtain ⟨sl, z1⟩ := u.slot b o z n hb hx
    obtain ⟨_, o', ho', hd⟩ := hf.mem hb
    rw [z1] at ho'
    cases ho'
    obtain ⟨sl2, z2⟩ := k2 b _ z1 hd
    exact ⟨sl2, z2⟩
  · obtain ⟨o2, z2⟩ := u.there b o z hx
    by_cases hm : b ∈ frs l
    · obtain ⟨_, o', ho', hd⟩ := hf.mem hm
      rw [z2] at ho'
      cases ho'
      obtain ⟨sl3, z3⟩ := k2 b _ z2 hd
      exact ⟨_, z3⟩
    · exact ⟨o2, inB b o2 z2 (hfresh b o z hm)⟩
theorem hok_fly {P : Program} {w : World} {H2 : Hp} {h2 h3 B : Heap} (x : HOk P w H2 h2) (hs : B.StaysIn h2) (htr : ∀ b, H2 b ≠ none → ∃ o, B.get? b = some o) (k1 : B.StaysIn h3) : HOk P w H2 h3 :=
  HOk.tracked x fun b u n z => by
    obtain ⟨o', z'⟩ := htr b n
    have := hs b o' z'
    rw [z] at this
    cases this
    exact k1 b _ z'
variable {X : Cx}
/-- the context within a try: what is pinned outside is kept, another wish -/
abbrev Cx.inTry (X : Cx) (pins : List (Addr × Obj)) (ξ : Value → Shared → Prop) : Cx := { X with pn := X.pn ++ pins, xe := ξ }
theorem Cx.Ok.inTry (ok : X.Ok) (pins : List (Addr × Obj)) (ξ : Value → Shared → Prop) : (X.inTry pins ξ).Ok :=
  ⟨ok.mod, ok.kind, ok.glob, ok.blt, ok.above, ok.inj, ok.has, ok.cab, ok.hd, ok.frames, ok.stk, ok.exf, ok.bs, ok.bsz, ok.noex, ok.exfs, ok.funs, ok.frf⟩
theorem Cx.Ok.outTry {pins : List (Addr × Obj)} {ξ : Value → Shared → Prop} (ok : (X.inTry pins ξ).Ok) : X.Ok :=
  ⟨ok.mod, ok.kind, ok.glob, ok.blt, ok.above, ok.inj, ok.has, ok.cab, ok.hd, ok.frames, ok.stk, ok.exf, ok.bs, ok.bsz, ok.noex, ok.exfs, ok.funs, ok.frf⟩
theorem Inv.inTry {pins : List (Addr × Obj)} {σ : St} {H : Hp} {s : Shared} (I : Inv X pins σ H s) (ξ : Value → Shared → Prop) : Inv (X.inTry pins ξ) [] σ H s :=
  ⟨I.ok.inTry pins ξ, I.os, I.bare, I.base, I.loc, I.cell, I.free, I.freeC, fun p hp => I.pin p (by simpa using hp), I.hok, I.len⟩
theorem Inv.outTry {pins pins' : List (Addr × Obj)} {σ : St} {H : Hp} {s : Shared} {ξ : Value → Shared → Prop} (I : Inv (X.inTry pins ξ) pins' σ H s) : Inv X pins σ H s :=
  ⟨I.ok.outTry, I.os, I.bare, I.base, I.loc, I.cell, I.free, I.freeC, fun p hp => I.pin p (List.mem_append_left _ hp), I.hok, I.len⟩
/-- a call whose exceptions may ask for the variables as they are -/
def tCallS (sp : Sp) (Ex : St → XK) (t : TA) : TE := fun σ H Q => t σ H fun vs H1 => sp (vs ++ []) H1 Q (Ex σ)
def PassS (X : Cx) (Ex : St → XK) : Prop := ∀ (pins : List (Addr × Obj)) (σ : St) (H : Hp) (s : Shared) (e : Value) (s' : Shared), Inv X pins σ H s → CXE X.prog X.w X.stack H s (Ex σ) e s' → X.xe e s'
theorem pe_callS {x : Str} {k : Nat} {sp : Sp} {e : Expr} {es : List Expr} {t : TA} {p pos : Pos} {Ex : St → XK} (C : CalleeE X.prog X.w X.K X.mg X.base x k sp) (hr : Room k X.A) (hg : Gl X x) (hx : PassS X Ex) (ha : PA X (e :: es) t)
    (he : starEach (e :: es) X.env = (false, eval e X.env) :: starEach es X.env := by rfl) (hpl : (backTo pos (starEach es X.env)).any (·.1) = false := by rfl) (hdb : (x == ("__debug__" : Str)) = false := by decide) :
    PE X (.Call (.Name x p) (e :: es) [] pos) (tCallS sp Ex t) := by
  obtain ⟨f, fd, ps, F, hm, hk, hb⟩ := C
  intro pins s σ H Q I h
  refine wpAny_Call_Name_kw (ld_glob I hg hm ?_ hdb)
  refine PySem.W.callWith_K (h₀ := X.base) I.ok.mod.kin hk (thn (ha pos pins s σ H _ I h) fun us s1 ⟨vs, H1, I1, r, q⟩ => ⟨I1.kIn, ?_⟩) he hpl
  have r2 : Vals (vs ++ []) (us ++ []) := r.append .nil
  have hl : (us ++ []).length = ps.length := by rw [← r2.length]; exact F.len _ _ _ _ q
  refine wpAny_call (codeAny_mono (F.run X.A X.stack s1 H1 ⟨us, []⟩ (us ++ []) (vs ++ []) Q (Ex σ) hr I1.env0 (hb s1 us I1.kIn hl) r2 q) fun r3 s' hq => ?_)
  cases r3 with
  | error v => exact hx pins σ H1 s1 v s' I1 hq
  | ok fl =>
    cases fl with
    | ret u => exact I1.after hq
    | next => exact False.elim hq
    | brk => exact False.elim hq
    | cont => exact False.elim hq
/-- an object that came since the entry is tracked -/
theorem Inv.trackN {pins : List (Addr × Obj)} {σ : St} {H : Hp} {s : Shared} {D : Addr} {o : HO} (I : Inv X pins σ H s) (hn : H D = none) (hL : D ≠ X.env.locals) (h1 : X.s₀.heap.get? D = none)
    (h2 : ∀ x c, X.env.cells.lookup x = some c → c ≠ D) (h3 : ∀ p ∈ X.pn ++ pins, p.1 ≠ D) (new : ObjOk X.prog X.w (upd H D o) s.heap D o) : Inv X pins σ (upd H D o) s := by
  have up : ∀ b u, H b = some u → upd H D o b = some u := fun b u e => by rw [upd_ne (ne_of_none e hn)]; exact e
  have un : ∀ b, b ≠ D → H b = none → upd H D o b = none := fun b hb e => by rw [upd_ne hb]; exact e
  refine ⟨I.ok, I.os, I.bare, ⟨I.base.keep, I.base.slot, fun b ob e n hx => un b (fun z => by rw [z, h1] at e; cases e) (I.base.free b ob e n hx), I.base.there, fun b xs e => up _ _ (I.base.tups b xs e), fun b ob u e => up _ _ (I.base.frzs b ob u e), fun b ps e => ?_⟩,
    I.loc, I.cell, un _ (Ne.symm hL) I.free, fun x c e => un _ (h2 x c e) (I.freeC x c e), fun p hp => ?_, fun b u e => ?_, I.len⟩
  · obtain ⟨m, e'⟩ := I.base.tbls b ps e
    exact ⟨m, up _ _ e'⟩
  · obtain ⟨e, n, r⟩ := I.pin p hp
    exact ⟨e, un _ (h3 p hp) n, r⟩
  · by_cases hb : b = D
    · subst hb
      rw [upd_same] at e
      cases e
      exact new
    · rw [upd_ne hb] at e
      exact (I.hok b u e).stay (fun _ _ _ z => z) (fun c z => up _ _ z) fun c xs z => up _ _ z
/-- an exception object of the class cls lies at e -/
def ExcAt (e : Addr) (cls : Value) : Heap → Prop := fun h => ∃ o vs, h.get? e = some o ∧ o.cls = cls ∧ o.dict = none ∧ o.data = .fields vs
theorem excAt_ok {P : Program} {w : World} {H : Hp} {h : Heap} {e : Addr} {cls : Value} (x : ExcAt e cls h) : ObjOk P w H h e (.ext (ExcAt e cls)) := by
  obtain ⟨o, vs, z, c⟩ := x
  exact ⟨⟨o, vs, z, c⟩, ⟨o, z⟩, fun h1 h2 ⟨o1, vs1, z1, c1⟩ k => ⟨o1, vs1, k o1 z1, c1⟩⟩
/-- the exception has come to the clauses: where all lies then -/
theorem comes {pins : List (Addr × Obj)} {σ : St} {H1 : Hp} {s1 s2 : Shared} {Ex : XK} {v : Value} {Q : Flow → Shared → Prop} {E : Value → Shared → Prop} {hs : List ExceptHandler} (hstk : X.stack = X.env :: X.outer) (hf : X.env.frame = some X.env.locals) (hex : X.ex = []) (I : Inv X pins σ H1 s1)
    (hq : CXE X.prog X.w X.stack H1 s1 Ex v s2)
    (k : ∀ (e : Addr) (cls : Value) (B : Heap) (H2 : Hp), v = .ref e → Ex cls none H2 → H2 e = none →
      (∀ h6, Fly B X.stack e cls h6 → s2.heap.UpToSlots h6 → Inv X pins σ (upd H2 e (.ext (ExcAt e cls))) { s2 with heap := h6 }) →
      ∀ h3, Fly B X.stack e cls h3 → s2.heap.UpToSlots h3 → wpAny (model X.prog X.w) X.A (handleBy (.ref e) X.env hs) Q E { s2 with heap := h3 }) :
    wpAny (model X.prog X.w) X.A (noteFrame v X.env) (fun _ s3 => wpAny (model X.prog X.w) X.A (setFlight v none) (fun _ s4 => wpAny (model X.prog X.w) X.A (handleBy v X.env hs) Q E s4) E s3) E s2 := by
  obtain ⟨e, cls, B, H2, rfl, os, bare, un, hok, hfl, hfresh, htr, q⟩ := hq
  have hfr : X.A.frames = some (X.env :: X.outer) := by rw [← hstk]; exact I.ok.frames
  have hfl' := hfl
  rw [hstk] at hfl'
  have hnew : s1.heap.get? e = none := by
    cases z : s1.heap.get? e with
    | none => rfl
    | some o =>
      exfalso
      by_cases hm : e ∈ frs X.stack
      · obtain ⟨oe, vs, T, oT, ts, he, _, hd, _⟩ := hfl.tr
        obtain ⟨_, o', ho', hd'⟩ := hfl.fr.mem hm
        rw [he] at ho'
        cases ho'
        exact hd' vs hd
      · obtain ⟨o', z'⟩ := hfresh e o z hm
        rw [hfl.ne] at z'
        cases z'
  have hHe : H2 e = none := by
    cases z : H2 e with
    | none => rfl
    | some u =>
      obtain ⟨o, z'⟩ := htr e (by rw [z]; exact fun y => by cases y)
      rw [hfl.ne] at z'
      cases z'
  have inv6 : ∀ h6, Fly B X.stack e cls h6 → s2.heap.UpToSlots h6 → Inv X pins σ (upd H2 e (.ext (ExcAt e cls))) { s2 with heap := h6 } := fun h6 fl up => by
    have u6 : Un (frs X.stack) [] H1 H2 s1.heap h6 := un_fly un hfl.st hfl.fr hfresh fl.st up
    have I6 : Inv X pins σ H2 { s2 with heap := h6 } := I.call' (s' := { s2 with heap := h6 }) os u6 (hok_fly hok hfl.st htr fl.st) bare (fun b z => absurd z (by simp))
    have hs0 : X.s₀.heap.get? e = none := by
      cases z : X.s₀.heap.get? e with
      | none => rfl
      | some o =>
        obtain ⟨o', z'⟩ := I.base.there e o z (by rw [hex]; simp)
        rw [hnew] at z'
        cases z'
    refine I6.trackN hHe (fun z => ?_) hs0 (fun x c hc z => ?_) (fun p hp z => ?_) (excAt_ok fl.there)
    · obtain ⟨m, hn, _⟩ := I.loc
      obtain ⟨o, _, _, ho, _⟩ := hn
      rw [← z, hnew] at ho
      cases ho
    · obtain ⟨v', o, ho, _⟩ := I.cell x c hc
      rw [z, hnew] at ho
      cases ho
    · have := (I.pin p hp).1
      rw [z, hnew] at this
      cases this
  refine fly_looks (s := s2) hfr hf hfl' fun h4 held4 up4 => ?_
  refine fly_lands held4 fun h5 fl5 up5 => ?_
  exact k e cls B H2 rfl q hHe inv6 h5 (by rw [hstk]; exact fl5) (up4.trans up5)
/-- within a clause: an exception is being handled, none is let out -/
abbrev Cx.inClause (X : Cx) (pins : List (Addr × Obj)) (e : Addr) : Cx := { X with A := X.A.mark (some (.ref e)), calm := false, pn := X.pn ++ pins, xe := fun _ _ => False }
theorem Inv.inClause {pins : List (Addr × Obj)} {σ : St} {H : Hp} {s : Shared} (I : Inv X pins σ H s) (e : Addr) : Inv (X.inClause pins e) [] σ H s :=
  ⟨⟨I.ok.mod, I.ok.kind, I.ok.glob, I.ok.blt, I.ok.above, I.ok.inj, I.ok.has, I.ok.cab, fun h => (by cases h), I.ok.frames, I.ok.stk, I.ok.exf, I.ok.bs, I.ok.bsz, I.ok.noex, I.ok.exfs, I.ok.funs, I.ok.frf⟩, I.os, I.bare, I.base, I.loc, I.cell, I.free, I.freeC, fun p hp => I.pin p (by simpa using hp), I.hok, I.len⟩
theorem Inv.outClause {pins pins' : List (Addr × Obj)} {σ : St} {H : Hp} {s : Shared} {e : Addr} (ok : X.Ok) (I : Inv (X.inClause pins e) pins' σ H s) : Inv X pins σ H s :=
  ⟨ok, I.os, I.bare, I.base, I.loc, I.cell, I.free, I.freeC, fun p hp => I.pin p (List.mem_append_left _ hp), I.hok, I.len⟩
/-- a name of the frame is taken away -/
theorem Inv.unset {pins : List (Addr × Obj)} {σ : St} {H : Hp} {s : Shared} {M : Model} {A : Around} {E : Value → Shared → Prop} {n : Str} {j : Nat} {pos : Pos} {Q : Unit → Shared → Prop} (I : Inv X pins σ H s) (hN : X.N.Nodup) (hj : X.N[j]? = some n) (hl : X.env.kindOf n = some .local)
    (h : ∀ s', Inv X pins (σ.set j none) H s' → Q () s') : wpAny M A (do bindName X.env n .none; unbindBehindTheSuite X.env n pos) Q E s := by
  obtain ⟨m, hn, hm⟩ := id I.loc
  have hcls : (X.env.scope.kind == .class || (X.env.scope.kind == .module && X.env.locals != X.env.globals)) = false := by rw [I.ok.kind]; rfl
  refine wpAny_nameGoes_keeps hl hn hcls fun h' v hn' hs => h _ ?_
  have far : ∀ b o, X.s₀.heap.get? b = some o → b ≠ X.env.locals := fun b o e => Nat.ne_of_lt (Nat.lt_of_lt_of_le (Heap.lt_size e) I.ok.above)
  refine ⟨I.ok, I.os, I.bare, ⟨fun b o e nn hb hx => (hs.2 b (far b o e)).trans (I.base.keep b o e nn hb hx), fun b o e nn hb hx => ?_, I.base.free, fun b o e hx => ?_, I.base.tups, I.base.frzs, I.base.tbls⟩, ⟨_, hn', fun i y v' e1 e2 e3 => ?_⟩, fun y c e => ?_, I.free, I.freeC, fun p hp => ?_, ?_, by simpa using I.len⟩
  · obtain ⟨sl, e1⟩ := I.base.slot b o e nn hb hx
    exact ⟨sl, (hs.2 b (far b o e)).trans e1⟩
  · obtain ⟨o', e1⟩ := I.base.there b o e hx
    exact ⟨o', (hs.2 b (far b o e)).trans e1⟩
  · by_cases hij : i = j
    · subst hij
      rw [List.getElem?_set] at e2
      split at e2
      · split at e2 <;> cases e2
      · exact absurd rfl (by assumption)
    · rw [List.getElem?_set_ne (Ne.symm hij)] at e2
      obtain ⟨u', r', q⟩ := hm i y v' e1 e2 e3
      refine ⟨u', r', ?_⟩
      have hyn : y ≠ n := fun e => hij (nodup_ix hN e1 (e ▸ hj))
      rcases q with ⟨k, e⟩ | ⟨k, c, e, z⟩
      · exact .inl ⟨k, by simp [hyn, e]⟩
      · exact .inr ⟨k, c, e, z.sameBut hs (I.cne y c e)⟩
  · obtain ⟨w', z⟩ := I.cell y c e
    exact ⟨w', z.sameBut hs (I.cne y c e)⟩
  · obtain ⟨e, nn, ne, nf, d⟩ := I.pin p hp
    exact ⟨(hs.2 p.1 ne).trans e, nn, ne, nf, d⟩
  · exact HOk.tracked I.hok fun b u nn z => (hs.2 b fun e => nn (by rw [e]; exact I.free)).trans z
/-- try: body, except T as x: suite (the suite ends of itself) -/
def tTry (K : PySem.W.Frag) (TC : Addr) (j : Nat) (tb : (St → XK) → TS) (ts : TS) : TS := fun D σ H =>
  tb (fun σ' cls _ H' => PySem.W.exmOne K cls (.ref TC) = some true ∧ ∀ e, H' e = none → ts { nx := fun σ2 H2 => D.nx (σ2.set j none) H2, rt := fun _ _ => False } (σ'.set j (some (.ref e))) (upd H' e (.ext (ExcAt e cls)))) D σ H
theorem ps_try {T n : Str} {TC : Addr} {j : Nat} {body : List Stmt} {b0 : Stmt} {suite : List Stmt} {tb : (St → XK) → TS} {ts : TS} {np hpos pos : Pos} (hstk : X.stack = X.env :: X.outer) (hf : X.env.frame = some X.env.locals) (hex : X.ex = [])
    (hT : X.mg T = some (.ref TC)) (hgT : Gl X T) (hN : X.N.Nodup) (hj : X.N[j]? = some n) (hl : X.env.kindOf n = some .local) (hl2 : X.env.scope.names.lookup n = some .local)
    (hb : ∀ (pins : List (Addr × Obj)) (ξ : Value → Shared → Prop) (Ex : St → XK), PassS (X.inTry pins ξ) Ex → PSs (X.inTry pins ξ) body (tb Ex))
    (hs : ∀ (pins : List (Addr × Obj)) (e : Addr), PSs (X.inClause pins e) (b0 :: suite) ts) (hdb : (T == ("__debug__" : Str)) = false := by decide) :
    PS X (.Try body [.ExceptHandler (some (.Name T np)) (some n) (b0 :: suite) hpos] [] [] pos) (tTry X.K TC j tb ts) := by
  intro pins s σ H D I q
  refine wpAny_Try_except ?_
  have hp : PassS (X.inTry pins (fun v s1 => wpAny (model X.prog X.w) X.A (noteFrame v X.env) (fun _ s2 => wpAny (model X.prog X.w) X.A (setFlight v none) (fun _ s3 => wpAny (model X.prog X.w) X.A (handleBy v X.env [.ExceptHandler (some (.Name T np)) (some n) (b0 :: suite) hpos]) (SP X pins D) X.xe s3) X.xe s2) X.xe s1))
      (fun σ' cls _ H' => PySem.W.exmOne X.K cls (.ref TC) = some true ∧ ∀ e, H' e = none → ts { nx := fun σ2 H2 => D.nx (σ2.set j none) H2, rt := fun _ _ => False } (σ'.set j (some (.ref e))) (upd H' e (.ext (ExcAt e cls)))) := by
    intro pins' σ' H' s' v s2 I' hq
    refine comes hstk hf hex I'.outTry hq fun e cls B H2 hv hE hHe inv6 h3 fl3 up3 => ?_
    obtain ⟨hx, hk⟩ := hE
    have I3 := inv6 h3 fl3 up3
    have I3c := I3.inClause e
    refine wpAny_handleBy_cons (codeAny_handlers_test ?_) (by intro z; cases z)
    refine ld_glob (X := X.inClause pins e) I3c hgT hT ?_ hdb
    obtain ⟨oe, _, hoe, hoc, _⟩ := fl3.there
    have LT : PySem.W.Looks (model X.prog X.w) h3 (typeOf (.ref e)) cls := by
      rw [← hoc]
      exact (PySem.W.Looks.ld hoe).andThen .now
    refine PySem.W.exm_one I3.kIn LT hx _ _ _ _ (fun _ _ z => z) ?_
    refine codeAny_handlers_suite_as ?_
    refine fly_lands (s := { s2 with heap := h3 }) fl3 fun h6 fl6 up6 => ?_
    have I6 := inv6 h6 fl6 (up3.trans up6)
    have I6c := I6.inClause e
    refine store_ok (X := X.inClause pins e) (v := .ref e) I6c hN hj (.inl hl2) rfl (fun s7 I7 => ?_) (.inr hl2)
    refine wpAny_mono (hs pins e [] s7 _ _ _ I7 (hk e hHe)) (fun f s8 h8 => ?_) (fun _ _ z => False.elim z)
    cases f with
    | next =>
      obtain ⟨σ8, H8, I8, q8⟩ := h8
      exact Inv.unset (I8.outClause I6.ok) hN hj hl fun s9 I9 => ⟨_, _, I9, q8⟩
    | ret u => obtain ⟨_, _, _, _, _, z⟩ := h8; exact False.elim z
    | brk => obtain ⟨_, _, _, z⟩ := h8; exact False.elim z
    | cont => obtain ⟨_, _, _, z⟩ := h8; exact False.elim z
  have hbody := hb pins _ _ hp [] s σ H D (I.inTry _) q
  refine wpAny_mono hbody (fun f s1 h1 => ?_) (fun _ _ z => z)
  cases f with
  | next =>
    obtain ⟨σ1, H1, I1, q1⟩ := h1
    exact wpAny_execs_nil ⟨σ1, H1, I1.outTry, q1⟩
  | ret u => obtain ⟨v, σ1, H1, I1, r1, q1⟩ := h1; exact ⟨v, σ1, H1, I1.outTry, r1, q1⟩
  | brk => obtain ⟨σ1, H1, I1, q1⟩ := h1; exact ⟨σ1, H1, I1.outTry, q1⟩
  | cont => obtain ⟨σ1, H1, I1, q1⟩ := h1; exact ⟨σ1, H1, I1.outTry, q1⟩
end
end L2

set_option Elab.async false
set_option linter.all false
set_option maxRecDepth 100000
/-! Calls within an except clause: a def's promise that does not ask that nothing is being handled. -/
namespace L2
open PySem PySem.Spec PyProof.Rows
/-- room for a call, whatever is being handled -/
structure RoomN (k : Nat) (A : Around) : Prop where
  dp : A.depth + 3 * k + 5 < recursionLimit
  un : A.units + 16 * k + 200 < cLine
theorem RoomN.deeper {k : Nat} {A : Around} (r : RoomN (k + 1) A) (env : Env) : RoomN k (A.deeper env) :=
  ⟨by have := r.dp; show A.depth + 1 + 3 * k + 5 < _; omega, by have := r.un; show A.units + 3 + 16 * k + 200 < _; omega⟩
theorem Room.noted {k : Nat} {A : Around} (r : Room k A) (v : Option Value) : RoomN k (A.mark v) := ⟨r.dp, r.un⟩
structure FnOkN (P : Program) (w : World) (K : PySem.W.Frag) (mg : Str → Option Value) (base : Heap) (k : Nat) (f : Addr) (fd : FuncData) (ps : List Str) (sp : Sp) : Prop where
  len : ∀ vs H Q E, sp vs H Q E → vs.length = ps.length
  run : ∀ (A : Around) (outer : List Env) (s : Shared) (H : Hp) (args : Args) (us : List Value) (vs : List V) (Q : VK) (E : XK), RoomN k A → Env0 P w K mg base A outer s H → BindsTo s fd args (ps.zip us) → Vals vs us → sp vs H Q E →
    codeAny (model P w) A (.call (.ref f) args) (CR CX0 outer P w H s Q E) s
def CalleeN (P : Program) (w : World) (K : PySem.W.Frag) (mg : Str → Option Value) (base : Heap) (x : Str) (k : Nat) (sp : Sp) : Prop :=
  ∃ f fd ps, FnOkN P w K mg base k f fd ps sp ∧ mg x = some (.ref f) ∧ PySem.W.keepIn K (.ref f) = true ∧ Binds K fd ps []
/-- the context of such a def's body -/
abbrev cxN (P : Program) (w : World) (K : PySem.W.Frag) (mg : Str → Option Value) (base : Heap) (N : List Str) (qual : Str) (scope : Scope) (f : Addr) (cd : Value) (A : Around) (outer : List Env) (s : Shared) (H : Hp) (E : XK) : Cx :=
  { cxOf CX0 P w K mg base N qual scope f cd A outer s H E with calm := false, xe := fun _ _ => False }
section
variable {P : Program} {w : World} {K : PySem.W.Frag} {mg : Str → Option Value} {base : Heap}
theorem inv_startN {N ps : List Str} {qual : Str} {scope : Scope} {f : Addr} {cd : Value} {A : Around} {outer : List Env} {s s1 : Shared} {H : Hp} {E : XK} {us : List Value} {vs : List V} (S : FnScope N ps scope) (e0 : Env0 P w K mg base A outer s H) (hl : vs.length = ps.length) (r : Vals vs us)
    (x : InCallC s s.heap.objs.size (bindL (envOfC qual scope s.heap.objs.size f cd).kindOf (ps.zip us) fun _ => none) (cellsFrom (s.heap.objs.size + 1) scope.names []) (bindC (envOfC qual scope s.heap.objs.size f cd).kindOf (ps.zip us) fun _ => none) s1) :
    Inv (cxN P w K mg base N qual scope f cd A outer s H E) [] (start N vs) H s1 := by
  have I := inv_start (CX := CX0) (E := E) (A := { A with handled := none }) (qual := qual) (f := f) (cd := cd) S rfl ⟨e0.frames, e0.mod, e0.bs, e0.bsz, e0.funs, e0.frf, e0.hok, e0.bare⟩ hl r x
  exact ⟨⟨I.ok.mod, I.ok.kind, I.ok.glob, I.ok.blt, I.ok.above, I.ok.inj, I.ok.has, I.ok.cab, fun h => (by cases h), Around.frames_deeper e0.frames, I.ok.stk, I.ok.exf, I.ok.bs, I.ok.bsz, I.ok.noex, I.ok.exfs, I.ok.funs, I.ok.frf⟩,
    I.os, I.bare, I.base, I.loc, I.cell, I.free, I.freeC, I.pin, I.hok, I.len⟩
theorem Def.okN {x : Str} {st : Stmt} {N ps : List Str} {k : Nat} {sp : Sp} (D : Def K mg x st) (S : FnScope N ps (defScope st))
    (bd : ∀ (kV doc pm : Value) (an : Option Addr) (cdv ct : Value) (us : List Value), us.length = ps.length → bindArgs (PySem.W.fnOf x x (defArgs st) (defBody st) (defScope st) .none kV doc pm an cdv ct) ⟨us, []⟩ = pure (ps.zip us))
    (len : ∀ vs H Q E, sp vs H Q E → vs.length = ps.length)
    (hbody : ∀ (f : Addr) (cdv : Value) (A : Around) (outer : List Env) (s : Shared) (H : Hp) (vs : List V) (Q : VK) (E : XK), RoomN k (A.deeper (envOfC x (defScope st) s.heap.objs.size f cdv)) → sp vs H Q E →
      ∃ t, PSs (cxN P w K mg base N x (defScope st) f cdv A outer s H E) (defBody st) t ∧ t { nx := fun _ H' => Q .non H', rt := Q } (start N vs) H) : CalleeN P w K mg base x (k + 1) sp := by
  obtain ⟨f, fd, F, hm⟩ := D
  have Fk := F.kp
  have Fb := F.binds bd
  obtain ⟨oc, od, kV, doc, pm, an, cdv, ct, osl, rfl, lk, hcd⟩ := F.ex
  refine ⟨f, _, ps, ⟨len, fun A outer s H args us vs Q E hr e0 hb r hsp => ?_⟩, hm, Fk, Fb⟩
  have KX : K.In s.heap := e0.mod.kin.keeps fun b o e => (e0.bs b o e).1
  have lim : s.heap.NoLimit := e0.mod.nolimit.keeps fun b o e => (e0.bs b o e).1
  have hkind : ∀ y ∈ ps.zip us, (defScope st).names.lookup y.1 = some .local ∨ ((defScope st).names.lookup y.1 = some .cell ∧ ((cellsFrom (s.heap.objs.size + 1) (defScope st).names []).lookup y.1).isSome = true) := fun ⟨n, v⟩ hy => by
    rcases S.par n (List.of_mem_zip hy).1 with q | q
    · exact .inl q
    · exact .inr ⟨q, PySem.W.cellsFrom_some _ _ _ (.inl q)⟩
  refine codeAny_call_function (by have := hr.dp; omega) (KX _ _ lk) rfl S.co S.gen rfl (PySem.W.codeRec_of KX hcd) (hb _ _ _ _ ?_)
  refine wpAny_newFunctionEnv_cells S.kind hkind fun env he s1 x1 => ?_
  subst he
  refine ⟨lim.keeps x1.toInCall.keep, codeAny_func ?_⟩
  obtain ⟨t, ht, hq⟩ := hbody f cdv A outer s H vs Q E (hr.deeper _) hsp
  have I := inv_startN (E := E) S e0 (len _ _ _ _ hsp) r x1
  refine wpAny_mono (ht [] s1 (start N vs) H _ I hq) (fun fl s' hs => ?_) fun e s' hs => False.elim hs
  have fin : ∀ {σ' : St} {H' : Hp} {v : V} {u : Value}, Inv (cxN P w K mg base N x (defScope st) f cdv A outer s H E) [] σ' H' s' → RelV v u → Q v H' → CE outer P w H s Q u s' :=
    fun {σ' H' v u} J rv q => ⟨v, H', J.os, J.bare, J.base, J.hok, rv, q⟩
  cases fl with
  | ret u =>
    obtain ⟨v, σ', H', J, rv, q⟩ := hs
    exact fin J rv q
  | next =>
    obtain ⟨σ', H', J, q⟩ := hs
    exact fin (v := V.non) (u := Value.none) J rfl q
  | brk =>
    obtain ⟨_, _, _, q⟩ := hs
    exact False.elim q
  | cont =>
    obtain ⟨_, _, _, q⟩ := hs
    exact False.elim q
end
section
variable {X : Cx}
theorem pe_callC {x : Str} {k : Nat} {sp : Sp} {e : Expr} {es : List Expr} {t : TA} {p pos : Pos} (C : CalleeN X.prog X.w X.K X.mg X.base x k sp) (hr : RoomN k X.A) (hg : Gl X x) (ha : PA X (e :: es) t)
    (he : starEach (e :: es) X.env = (false, eval e X.env) :: starEach es X.env := by rfl) (hpl : (backTo pos (starEach es X.env)).any (·.1) = false := by rfl) (hdb : (x == ("__debug__" : Str)) = false := by decide) :
    PE X (.Call (.Name x p) (e :: es) [] pos) (tCall sp [] E0 t) := by
  obtain ⟨f, fd, ps, F, hm, hk, hb⟩ := C
  intro pins s σ H Q I h
  refine wpAny_Call_Name_kw (ld_glob I hg hm ?_ hdb)
  refine PySem.W.callWith_K (h₀ := X.base) I.ok.mod.kin hk (thn (ha pos pins s σ H _ I h) fun us s1 ⟨vs, H1, I1, r, q⟩ => ⟨I1.kIn, ?_⟩) he hpl
  have r2 : Vals (vs ++ []) (us ++ []) := r.append .nil
  have hl : (us ++ []).length = ps.length := by rw [← r2.length]; exact F.len _ _ _ _ q
  refine wpAny_call (codeAny_mono (F.run X.A X.stack s1 H1 ⟨us, []⟩ (us ++ []) (vs ++ []) Q E0 hr I1.env0 (hb s1 us I1.kIn hl) r2 q) fun r3 s' hq => ?_)
  cases r3 with
  | error v => exact False.elim hq
  | ok fl =>
    cases fl with
    | ret u => exact I1.after hq
    | next => exact False.elim hq
    | brk => exact False.elim hq
    | cont => exact False.elim hq
/-- a global thing of the module, as a value -/
theorem pe_globR {x : Str} {a : Addr} {pos : Pos} (hm : X.mg x = some (.ref a)) (hg : Gl X x) (hd : (x == ("__debug__" : Str)) = false := by decide) : PE X (.Name x pos) (tC (.ref a)) := fun pins s σ H Q I q =>
  ld_glob I hg hm ⟨.ref a, H, I, rfl, q⟩ hd
end
end L2

set_option Elab.async false
set_option linter.all false
set_option maxRecDepth 100000
/-! isinstance of an exception of an own class. -/
namespace L2
open PySem PySem.Spec PyProof.Rows
/-- what isinstance asks of an own class -/
structure IsiCls (K : PySem.W.Frag) (D : Addr) : Prop where
  ga : PySem.W.findIn K (.ref D) "__getattribute__" = some (some (.builtin "BaseException.__getattribute__"))
  gt : PySem.W.findIn K (.ref D) "__getattr__" = some none
  mb : PySem.W.mroIn K D (.type "BaseException") = some true
  hd : PySem.W.hasDictIn K D = true
  ca : PySem.W.findIn K (.ref D) "__class__" = some (some (.builtin "object.__class__"))
  sp : PySem.W.specialIn K (.builtin "object.__class__") "__get__" = some (some (.builtin "getset_descriptor.__get__"))
  tk : PySem.W.takesIn K (.builtin "object.__class__") = some true
  mr : PySem.W.mroIn K D (.type "object") = some true
theorem excAt_inst {h : Heap} {x D : Addr} (e : ExcAt x (.ref D) h) : ∃ ox, PySem.W.InstAt h x ox D none := by
  obtain ⟨o, vs, z, c, d, f⟩ := e
  refine ⟨o, z, c, ?_, ?_⟩
  · rcases o with ⟨c', d', dt, sl⟩
    dsimp only at f
    subst f
    rfl
  · rw [d]
    trivial
theorem exc_class_attr {K : PySem.W.Frag} {x D : Addr} {ox : Obj} {prog : Program} {w : World} {A : Around} {E : Value → Shared → Prop} {s : Shared} {Q : Option Value → Shared → Prop}
    (X : K.In s.heap) (I : PySem.W.InstAt s.heap x ox D none) (C : IsiCls K D) (h : Q (some (.ref D)) { s with toks := s.toks + 1 }) : wpAny (model prog w) A (getAttr? (.ref x) "__class__") Q E s := by
  have hf : PySem.W.findObj K D none "__class__" = some (.bind (.builtin "getset_descriptor.__get__") (.builtin "object.__class__")) := by
    obtain ⟨cd, hc, _⟩ := PySem.W.any_some C.hd
    unfold PySem.W.findObj
    rw [hc]
    simp only [Option.bind_some, C.ca, C.sp, C.tk]
  obtain ⟨hh, g, d, t, os⟩ := s
  have L0 := I.type (M := model prog w)
  have L1 := PySem.W.looks_findIn (M := model prog w) X C.ga
  have L2 := PySem.W.looks_findIn (M := model prog w) X C.gt
  have L3 := PySem.W.looks_mroIn (M := model prog w) X C.mb
  have L4 := PySem.W.looks_find (M := model prog w) X I hf
  have hk : builtinKind "BaseException.__getattribute__" = some .slot := by decide +kernel
  have hsplit : splitId "BaseException.__getattribute__" = some ("BaseException", "__getattribute__") := by decide +kernel
  unfold getAttr? getAttrBy? getAttrBy
  refine wpAny_bind (wpAny_mkText (wpAny_bind (wpAny_attempt (wpAny_holding (wpAny_bind (L0.at (wpAny_bind (L1.at ?_))))))))
  show wpAny _ _ (getAttrByItsOwn _ _ _ _ _ _) _ _ _
  unfold getAttrByItsOwn
  refine wpAny_bind (L2.at (wpAny_bind (wpAny_attempt (wpAny_holding ?_))))
  show wpAny _ _ (boundAndCalled _ _ _) _ _ _
  unfold boundAndCalled
  rw [PySem.F.attr_ValueError.ga.bind]
  refine wpAny_bind (wpAny_pure (wpAny_call (codeAny_call_builtin PySem.F.attr_ValueError.ga.plain PySem.F.entry_bexc_ga ?_)))
  have ha := PySem.F.args_bexc_ga (.ref x) (.str "__class__" t)
  simp only [checkBuiltinCall, hk, hsplit]
  refine wpAny_bind ?_
  unfold isInstance
  refine wpAny_bind (L0.at (L3.at ?_))
  repeat (first | with_reducible refine L4.at ?_ | with_reducible refine L0.at ?_ | wp_step)
  refine PySem.W.class_get (s := ⟨hh, g, d, t + 1, os⟩) (ox := ox) (od := none) X I C.mr ?_
  refine wpAny_pure ?_
  exact PySem.W.handed_on rfl (wpAny_pure h)
theorem kitx_exc {K : PySem.W.Frag} {x D : Addr} (C : IsiCls K D) : PySem.W.KitX K (.ref x) (.ref D) (ExcAt x (.ref D)) where
  ty := fun _ _ _ e => by
    obtain ⟨ox, I⟩ := excAt_inst e
    exact I.type
  it := fun _ _ kin _ => by
    obtain ⟨cd, hc, _⟩ := PySem.W.any_some C.hd
    unfold PySem.W.clsIn at hc
    split at hc
    case h_2 => cases hc
    case h_1 look =>
      intro A' Q' E' s' k q
      unfold isType loadHead
      exact wpAny_bind (wpAny_loadPart (k _ _ (kin _ _ look)) (wpAny_pure q))
  ne := fun h tp dd its n sl kin htp => by
    obtain ⟨cd, hc, _⟩ := PySem.W.any_some C.hd
    cases q : ((Value.ref D) == .ref tp) with
    | false => rfl
    | true =>
      have e : D = tp := Value.ref.inj (beq_iff_eq.mp q)
      unfold PySem.W.clsIn at hc
      split at hc
      case h_2 => cases hc
      case h_1 look =>
        rw [e] at look
        have z := kin _ _ look
        rw [htp] at z
        cases z
  ca := fun {prog w A E Q s} kin e k => by
    obtain ⟨ox, I⟩ := excAt_inst e
    exact exc_class_attr kin I C k
/-- isinstance(e, c): e an exception of an own class -/
def rIsiX (K : PySem.W.Frag) : List V → Hp → VK → Prop := fun xs H Q => ∃ (e D : Addr) (x : V) (c : Value) (b : Bool), xs = [.ref e, x] ∧ (∀ u, RelV x u → u = c) ∧ H e = some (.ext (ExcAt e (.ref D))) ∧ IsiCls K D ∧ PySem.W.kitOne K (.ref D) c = some b ∧ Q (.bl b) H
theorem call_isinstanceX {X : Cx} (K : PySem.W.Frag) (hK : X.K = K := by rfl) : CallR X (.builtin "isinstance") (rIsiX K) := by
  subst hK
  intro pins s σ H xs us Q I r h
  obtain ⟨e, D, x, c, b, rfl, hc, he, C, hk, q⟩ := h
  obtain ⟨u, c', rfl, rx, rc⟩ := vals2 r
  cases (show u = Value.ref e from rx)
  cases hc c' rc
  have he' : ObjOk X.prog X.w H s.heap e (.ext (ExcAt e (.ref D))) := I.hok e _ he
  exact PySem.W.kia_one (kitx_exc C) I.kIn he'.1 hk (fun z => nomatch z) fun tk => ⟨.bl b, H, I.tok tk, rfl, q⟩
end L2

set_option Elab.async false
set_option linter.all false
set_option maxRecDepth 100000
/-! Objects of own classes: a method, or a class, with its promise; such calls in defs that may raise, and within a try. -/
namespace L2
open PySem PySem.Spec PyProof.Rows
/-- a method of a class with its promise -/
def CalleeM (CX : CXT) (P : Program) (w : World) (K : PySem.W.Frag) (mg : Str → Option Value) (base : Heap) (C : Addr) (m : Str) (k : Nat) (sp : Sp) : Prop :=
  ∃ f fd ps, FnOk P w K mg base CX k f fd ps sp ∧ Meth K C m f ∧ Binds K fd ps []
/-- a class with the promise of its __init__ -/
def CalleeC (CX : CXT) (P : Program) (w : World) (K : PySem.W.Frag) (mg : Str → Option Value) (base : Heap) (C : Addr) (x : Str) (k : Nat) (sp : Sp) : Prop :=
  ∃ f fd ps, FnOk P w K mg base CX k f fd ps sp ∧ Mk K C f ∧ mg x = some (.ref C) ∧ Binds K fd ps []
def DefM (K : PySem.W.Frag) (C : Addr) (m qual : Str) (st : Stmt) : Prop := ∃ f fd, Fun K m qual st f fd ∧ Meth K C m f
section
variable {P : Program} {w : World} {K : PySem.W.Frag} {mg : Str → Option Value} {base : Heap} {C : Addr} {m qual : Str} {st : Stmt} {N ps : List Str} {k : Nat} {sp : Sp}
theorem DefM.ok (D : DefM K C m qual st) (S : FnScope N ps (defScope st))
    (bd : ∀ (kV doc pm : Value) (an : Option Addr) (cdv ct : Value) (us : List Value), us.length = ps.length → bindArgs (PySem.W.fnOf m qual (defArgs st) (defBody st) (defScope st) .none kV doc pm an cdv ct) ⟨us, []⟩ = pure (ps.zip us))
    (len : ∀ vs H Q E, sp vs H Q E → vs.length = ps.length)
    (hbody : ∀ (f : Addr) (cdv : Value) (A : Around) (outer : List Env) (s : Shared) (H : Hp) (vs : List V) (Q : VK) (E : XK), Room k (A.deeper (envOfC qual (defScope st) s.heap.objs.size f cdv)) → sp vs H Q E →
      ∃ t, PSs (cxOf CX0 P w K mg base N qual (defScope st) f cdv A outer s H E).nox (defBody st) t ∧ t { nx := fun _ H' => Q .non H', rt := Q } (start N vs) H) : CalleeM CX0 P w K mg base C m (k + 1) sp := by
  obtain ⟨f, fd, F, hm⟩ := D
  exact ⟨f, fd, ps, F.ok S len fun cdv A outer s H vs Q E hr h => hbody f cdv A outer s H vs Q E hr h, hm, F.binds bd⟩
theorem DefM.okE (D : DefM K C m qual st) (S : FnScope N ps (defScope st))
    (bd : ∀ (kV doc pm : Value) (an : Option Addr) (cdv ct : Value) (us : List Value), us.length = ps.length → bindArgs (PySem.W.fnOf m qual (defArgs st) (defBody st) (defScope st) .none kV doc pm an cdv ct) ⟨us, []⟩ = pure (ps.zip us))
    (len : ∀ vs H Q E, sp vs H Q E → vs.length = ps.length)
    (hbody : ∀ (f : Addr) (cdv : Value) (A : Around) (outer : List Env) (s : Shared) (H : Hp) (vs : List V) (Q : VK) (E : XK), Room k (A.deeper (envOfC qual (defScope st) s.heap.objs.size f cdv)) → sp vs H Q E →
      ∃ t, PSs (cxOf (CXE P w) P w K mg base N qual (defScope st) f cdv A outer s H E) (defBody st) t ∧ t { nx := fun _ H' => Q .non H', rt := Q } (start N vs) H) : CalleeM (CXE P w) P w K mg base C m (k + 1) sp := by
  obtain ⟨f, fd, F, hm⟩ := D
  have Fb := F.binds bd
  obtain ⟨oc, od, kV, doc, pm, an, cdv, ct, osl, rfl, lk, hcd⟩ := F.ex
  exact ⟨f, _, ps, fn_of lk hcd S len fun A outer s H vs Q E hr hsp => hbody f cdv A outer s H vs Q E hr hsp, hm, Fb⟩
theorem CalleeM.made {CX : CXT} {x : Str} (M : CalleeM CX P w K mg base C "__init__" k sp) (h1 : PySem.W.makesIn K C = true) (h2 : PySem.W.keepIn K (.ref C) = true) (h3 : mg x = some (.ref C)) : CalleeC CX P w K mg base C x k sp := by
  obtain ⟨f, fd, ps, F, hm, hb⟩ := M
  exact ⟨f, fd, ps, F, ⟨h1, hm.at_, hm.fn, h2⟩, h3, hb⟩
theorem calm_fn {f : Addr} {fd : FuncData} {spE : Sp} (F : FnOk P w K mg base (CXE P w) k f fd ps spE) (h : ∀ vs H Q E, sp vs H Q E → spE vs H Q (fun _ _ _ => False)) : FnOk P w K mg base CX0 k f fd ps sp := by
  refine ⟨fun vs H Q E hs => F.len vs H Q _ (h vs H Q E hs), fun A outer s H args us vs Q E hr he hb hv hs => codeAny_mono (F.run A outer s H args us vs Q _ hr he hb hv (h vs H Q E hs)) fun r s' z => ?_⟩
  cases r with
  | ok x => cases x <;> exact z
  | error e =>
    obtain ⟨_, _, _, _, _, _, _, _, _, _, _, _, q⟩ := z
    exact q.elim
theorem CalleeM.calm {spE : Sp} (M : CalleeM (CXE P w) P w K mg base C m k spE) (h : ∀ vs H Q E, sp vs H Q E → spE vs H Q (fun _ _ _ => False)) : CalleeM CX0 P w K mg base C m k sp := by
  obtain ⟨f, fd, ps, F, r⟩ := M
  exact ⟨f, fd, ps, calm_fn F h, r⟩
end
section
variable {X : Cx} (K : PySem.W.Frag) {C : Addr} {m x : Str} {k : Nat} {sp : Sp} {e o : Expr} {es : List Expr} {ta : TE} {t : TA} {p pos apos : Pos} {f : Str} {tv : TE} {value : Expr} {pos' : Pos}
theorem pe_fldK (he : PE X e ta) (hb : attributeBase e f X.env (eval e X.env) = eval e X.env) (hK : X.K = K := by rfl) : PE X (.Attribute e f pos) (tFld K ta f) := by subst hK; exact pe_fld he hb
theorem ps_fldK (ha : PE X o ta) (hv : PE X value tv) (hs : swapsWith value (some (.Attribute o f pos')) pos.line X.env = pure false) (hK : X.K = K := by rfl) : PS X (.Assign [.Attribute o f pos'] value pos) (sFld K ta tv f) := by subst hK; exact ps_fld ha hv hs
theorem pe_methN {pl : Sem Bool} (M : CalleeM CX0 X.prog X.w X.K X.mg X.base C m k sp) (c : Cls X.K C) (he : PE X o ta) (hr : Room k X.A) (ha : PA X (e :: es) t)
    (hst : starEach (e :: es) X.env = (false, eval e X.env) :: starEach es X.env := by rfl) (hpl : (backTo pos (starEach es X.env)).any (·.1) = false := by rfl)
    (ht : eval (.Call (.Attribute o m apos) (e :: es) [] pos) X.env = (do
      let ov ← eval o X.env
      standAt apos.atName
      let (f, first) ← holding [ov] (getMethod ov m pl)
      callWith pos f first (backTo pos (starEach (e :: es) X.env)) (backToKw pos (keywordEach [] X.env))) := by rfl) : PE X (.Call (.Attribute o m apos) (e :: es) [] pos) (tMeth C m sp [] E0 ta t) := by
  obtain ⟨f, fd, ps, F, hm, hb⟩ := M
  exact pe_meth (pl := pl) he c hm F hr hb .nil pass0 ha (hst := hst) (hpl := hpl) (ht := ht)
theorem pe_meth0N {pl : Sem Bool} (M : CalleeM CX0 X.prog X.w X.K X.mg X.base C m k sp) (c : Cls X.K C) (he : PE X o ta) (hr : Room k X.A)
    (ht : eval (.Call (.Attribute o m apos) [] [] pos) X.env = (do
      let ov ← eval o X.env
      standAt apos.atName
      let (f, first) ← holding [ov] (getMethod ov m pl)
      callWith pos f first (backTo pos (starEach [] X.env)) (backToKw pos (keywordEach [] X.env))) := by rfl) : PE X (.Call (.Attribute o m apos) [] [] pos) (tMeth C m sp [] E0 ta tNil) := by
  obtain ⟨f, fd, ps, F, hm, hb⟩ := M
  exact pe_meth0 (pl := pl) he c hm F hr hb .nil pass0 (ht := ht)
/-- o.m(e, ..) that may raise, within a try -/
def tMethS (C : Addr) (m : Str) (sp : Sp) (Ex : St → XK) (ta : TE) (t : TA) : TE := fun σ H Q => ta σ H fun x H1 => ∃ a dx fs, x = .ref a ∧ H1 a = some (.ins C dx fs) ∧ fs.lookup m = none ∧
  t σ H1 fun vs H2 => sp (x :: (vs ++ [])) H2 Q (Ex σ)
end
end L2

set_option Elab.async false
set_option linter.all false
set_option maxRecDepth 100000
set_option maxHeartbeats 4000000
namespace L2
open PySem PySem.Spec PyProof.Rows
section
variable {P : Program} {w : World} {K : PySem.W.Frag} {mg : Str → Option Value} {base : Heap} {N : List Str} {qual : Str} {scope : Scope} {f : Addr} {cd : Value} {A : Around} {outer : List Env} {s : Shared} {H : Hp} {E : XK}
theorem pe_makeE {C : Addr} {x : Str} {k : Nat} {sp : Sp} {e0 : Expr} {es : List Expr} {t : TA} {p pos : Pos} {E' : XK} (Ca : CalleeC (CXE P w) P w K mg base C x k sp) (hr : Room (k + 1) (A.deeper (envOfC qual scope s.heap.objs.size f cd))) (hg : Gl (cxOf (CXE P w) P w K mg base N qual scope f cd A outer s H E) x)
    (ha : PA (cxOf (CXE P w) P w K mg base N qual scope f cd A outer s H E) (e0 :: es) t) (hE : ∀ c d H', E' c d H' → E c d H' := by exact fun _ _ _ z => z)
    (he : starEach (e0 :: es) (envOfC qual scope s.heap.objs.size f cd) = (false, eval e0 (envOfC qual scope s.heap.objs.size f cd)) :: starEach es (envOfC qual scope s.heap.objs.size f cd) := by rfl)
    (hpl : (backTo pos (starEach es (envOfC qual scope s.heap.objs.size f cd))).any (·.1) = false := by rfl) (hdb : (x == ("__debug__" : Str)) = false := by decide) :
    PE (cxOf (CXE P w) P w K mg base N qual scope f cd A outer s H E) (.Call (.Name x p) (e0 :: es) [] pos) (tMake C sp [] E' t) := by
  obtain ⟨f', fd, ps, F, hM, hm, hb⟩ := Ca
  exact pe_make hM F hr hg hm hb .nil (pass_exc hE) ha (hdb := hdb) (he := he) (hpl := hpl)
end
/-- C(..) that may raise, within a try -/
def tMakeS (C : Addr) (sp : Sp) (Ex : St → XK) (t : TA) : TE := fun σ H Q => t σ H fun vs H1 => ∀ x dx, H1 x = none → H1 dx = none → dx ≠ x →
  sp (.ref x :: (vs ++ [])) (upd (upd H1 dx (.own x)) x (.ins C dx [])) (fun v H2 => v = .non ∧ Q (.ref x) H2) (Ex σ)
section
variable {X : Cx} {C : Addr} {x : Str} {k : Nat} {sp : Sp} {e : Expr} {es : List Expr} {t : TA} {p pos : Pos} {Ex : St → XK}
theorem pe_makeS (Ca : CalleeC (CXE X.prog X.w) X.prog X.w X.K X.mg X.base C x k sp) (hr : Room (k + 1) X.A) (hg : Gl X x) (hx : PassS X Ex) (ha : PA X (e :: es) t)
    (he : starEach (e :: es) X.env = (false, eval e X.env) :: starEach es X.env := by rfl) (hpl : (backTo pos (starEach es X.env)).any (·.1) = false := by rfl) (hdb : (x == ("__debug__" : Str)) = false := by decide) :
    PE X (.Call (.Name x p) (e :: es) [] pos) (tMakeS C sp Ex t) := by
  obtain ⟨f, fd, ps, F, M, hm, hb⟩ := Ca
  intro pins s σ H Q I h
  refine wpAny_Call_Name_kw (ld_glob I hg hm ?_ hdb)
  refine PySem.W.callWith_K (h₀ := X.base) I.ok.mod.kin M.kp (thn (ha pos pins s σ H _ I h) fun us s1 ⟨vs, H1, I1, r, q⟩ => ⟨I1.kIn, ?_⟩) he hpl
  have hq := q (s1.heap.objs.size + 1) s1.heap.objs.size (I1.hok.fresh (Nat.le_succ _)) (I1.hok.fresh (Nat.le_refl _)) (Nat.ne_of_lt (Nat.lt_succ_self _))
  have I2 := Inv.made (C := C) I1
  have r2 : Vals (V.ref (s1.heap.objs.size + 1) :: (vs ++ [])) (Value.ref (s1.heap.objs.size + 1) :: (us ++ [])) := .cons rfl (r.append .nil)
  have hl : (Value.ref (s1.heap.objs.size + 1) :: us ++ []).length = ps.length := by
    have e := r2.length
    rw [F.len _ _ _ _ hq] at e
    exact e.symm
  refine wpAny_call (make_map (f := f) I1.kIn M.makes M.init (beq_iff_eq.mp M.fn) (codeAny_mono (F.run _ X.stack _ _ ⟨Value.ref (s1.heap.objs.size + 1) :: us, []⟩ (Value.ref (s1.heap.objs.size + 1) :: (us ++ [])) _ _ (Ex σ) (hr.make C us [])
    (I2.env0.make C us []) (List.cons_append (as := us) (bs := []) ▸ hb _ (Value.ref (s1.heap.objs.size + 1) :: us) I2.kIn hl) r2 hq) fun r s' hq' => ?_))
  cases r with
  | error v => exact hx pins σ _ _ v s' I2 hq'
  | ok fl =>
    cases fl with
    | ret u =>
      obtain ⟨v, H', I3, rv, ev, q3⟩ := I2.after hq'
      subst ev
      exact ⟨rv, ⟨V.ref (s1.heap.objs.size + 1), H', I3, rfl, q3⟩⟩
    | next => exact False.elim hq'
    | brk => exact False.elim hq'
    | cont => exact False.elim hq'
end
end L2

set_option Elab.async false
set_option linter.all false
namespace M
/-! ### wheels: plain mathematics -/
def drag (p a x : Int) : Int := if x < a - p then a - p else if a + p < x then a + p else x
def isTr (ps : List Int) : Prop := 1 ≤ ps.length ∧ ps.length ≤ 12 ∧ ∀ p ∈ ps, 0 ≤ p
def keeps : List Int → Int → List Int → Prop
  | p :: ps, a, x :: xs => (x - a ≤ p ∧ a - x ≤ p) ∧ keeps ps x xs
  | _, _, _ => True
def stand (ps : List Int) (a : Int) (xs : List Int) : Prop := xs.length = ps.length ∧ keeps ps a xs
def dragAll : List Int → List Int → Int → List Int
  | p :: ps, x :: xs, a => drag p a x :: dragAll ps xs (drag p a x)
  | _, _, _ => []
def lastOf : Int → List Int → Int
  | a, [] => a
  | _, x :: xs => lastOf x xs
theorem dropc {α : Type} {xs : List α} {i : Nat} {x : α} (h : xs[i]? = some x) : xs.drop i = x :: xs.drop (i + 1) := by
  obtain ⟨hl, e⟩ := List.getElem?_eq_some_iff.mp h
  rw [List.drop_eq_getElem_cons hl, e]
/-! ### rows; wheels by themselves -/
def runs (ps : List Int) : List Int → List Int → List (List Int)
  | _, [] => []
  | ws, c :: row => dragAll ps ws c :: runs ps (dragAll ps ws c) row
def hung (d : Int) : Int → List Int → List Int
  | _, [] => []
  | x, c :: row => drag d c x :: hung d (drag d c x) row
def alone : Int → List Int → List Int → Int → List Int
  | d, p :: ps, x :: xs, a => drag (d + p) a x :: alone (d + p) ps xs a
  | _, _, _, _ => []
def depths : Int → List Int → List Int
  | _, [] => []
  | d, p :: ps => (d + p) :: depths (d + p) ps
/-! ### rows cut, rows filled -/
def endW (ps : List Int) : List Int → List Int → List Int
  | ws, [] => ws
  | ws, c :: row => endW ps (dragAll ps ws c) row
/-- places on the way, in order -/
def Path (a c : Int) : List Int → Prop
  | [] => True
  | s :: ss => ((a ≤ s ∧ s ≤ c) ∨ (c ≤ s ∧ s ≤ a)) ∧ Path s c ss
/-- a row, filled; the marks tell where the row's own places stand -/
def FillOk (a : Int) (row : List Int) (i : Nat) (fs ms : List Int) : Prop := ∀ ps ws : List Int, (∀ p ∈ ps, 0 ≤ p) → keeps ps a ws →
  endW ps ws fs = endW ps ws (row.take i) ∧ ∀ k : Nat, k < i → ∃ m : Nat, ms[k]? = some (m : Int) ∧ m < fs.length ∧ (runs ps ws fs)[m]? = (runs ps ws row)[k]?
def apps : Nat → List (List Int) → List (List Int)
  | _, [] => []
  | k, x :: xs => (x ++ [(k : Int)]) :: apps (k + 1) xs
theorem take_snoc_get {α : Type} {xs : List α} {j : Nat} {x : α} (h : xs[j]? = some x) : xs.take (j + 1) = xs.take j ++ [x] := by
  rw [List.take_add_one, h]; rfl
end M

set_option Elab.async false
set_option linter.all false
namespace M
/-! ### sums over numbers below n, and boxes by their first returns -/
def sumR (f : Nat → Int) : Nat → Int
  | 0 => 0
  | n + 1 => sumR f n + f n
abbrev Sw3 := Int × Int × Int
def fsum (F : Int → Int → Bool) (sws : List Sw3) : Int := (sws.map fun s => if F s.1 s.2.1 then s.2.2 else 0).sum
def wsum (sws : List Sw3) (lo hi : Int) : Int := fsum (fun a b => decide (a = lo ∧ b = hi)) sws
def ret (sws : List Sw3) (h l : Int) : Int := fsum (fun a b => decide (b ≤ h ∧ a < l)) sws
def okS (top : Int) (s : Sw3) : Prop := 0 ≤ s.1 ∧ s.1 < s.2.1 ∧ s.2.1 ≤ top
theorem fsum_cons (F : Int → Int → Bool) (s : Sw3) (sws : List Sw3) : fsum F (s :: sws) = (if F s.1 s.2.1 then s.2.2 else 0) + fsum F sws := by simp [fsum]
/-- the row of a low -/
def rowW (W : Int → Int → Int) (l : Nat) : Nat → List Sw3
  | 0 => []
  | j + 1 => rowW W l j ++ [((l : Int), (l : Int) + 1 + j, W l ((l : Int) + 1 + j))]
def allW (W : Int → Int → Int) (top : Nat) : Nat → List Sw3
  | 0 => []
  | n + 1 => allW W top n ++ rowW W n (top - n)
def toldW (W : Int → Int → Int) (top : Nat) : List Sw3 := (allW W top top).filter fun s => decide (s.2.2 ≠ 0)
/-- the first returns as a table -/
def tabRow (sws : List Sw3) (h : Nat) : List Int := (List.range (h + 1)).map fun l : Nat => ret sws h l
def tabOf (sws : List Sw3) (n : Nat) : List (List Int) := (List.range n).map fun h => tabRow sws h
theorem tabRow_len (sws : List Sw3) (h : Nat) : (tabRow sws h).length = h + 1 := by simp [tabRow]
theorem tabRow_get (sws : List Sw3) {h l : Nat} (hl : l ≤ h) : (tabRow sws h)[l]? = some (ret sws h l) := by
  unfold tabRow
  rw [List.getElem?_map, List.getElem?_range (by omega)]
  rfl
theorem tabOf_get (sws : List Sw3) {n h : Nat} (hl : h < n) : (tabOf sws n)[h]? = some (tabRow sws h) := by
  unfold tabOf
  rw [List.getElem?_map, List.getElem?_range (by omega)]
  rfl
end M

set_option Elab.async false
set_option linter.all false
set_option maxRecDepth 100000
/-! Tuples: comprehensions over one, tuple(list), what isinstance says of one. -/
namespace L2
open PySem PySem.Spec PyProof.Rows
section
variable {K : PySem.W.Frag} {g : TG} {ti : TT} {te : TE} {σc : St} {H : Hp} {Q : VK}
end
def rTupOf (K : PySem.W.Frag) : List V → Hp → VK → Prop := fun xs H Q => ∃ p ys, xs = [.ref p] ∧ ((SqL K H p ys ∧ ∀ l, H l = none → Q (.ref l) (upd H l (.tup ys))) ∨ (SqT K H p ys ∧ Q (.ref p) H))
section
variable {K : PySem.W.Frag} {H : Hp} {Q : VK}
end
end L2

set_option Elab.async false
set_option linter.all false
namespace L2
open PySem PySem.Spec PyProof.Rows
/-! ### a comprehension within the block of another one -/
end L2

set_option Elab.async false
set_option linter.all false
set_option maxRecDepth 100000
namespace L2
open PySem PySem.Spec PyProof.Rows
/-! ### a comprehension whose block has cells of its own -/
theorem cellsFrom_get : ∀ (names : List (Str × NameKind)) (h : Heap) (acc : List (Str × Addr)) (x : Str) (c : Addr), (cellsFrom h.objs.size names acc).lookup x = some c →
    acc.lookup x = some c ∨ (h.objs.size ≤ c ∧ (x, NameKind.cell) ∈ names ∧ (pushCells h names).IsCell c none)
  | [], _, _, _, _, e => .inl e
  | (m, k) :: r, h, acc, x, c, e => by
    unfold cellsFrom at e
    unfold pushCells
    by_cases hk : (k == NameKind.cell) = true
    · rw [if_pos hk] at e ⊢
      have hk' : k = .cell := by simpa using hk
      subst hk'
      have hs : (h.push { cls := .type "cell", data := .cell none }).objs.size = h.objs.size + 1 := Heap.size_push ..
      rw [← hs] at e
      rcases cellsFrom_get r _ _ x c e with z | ⟨z1, z2, z3⟩
      · rw [List.lookup_cons] at z
        cases hx : x == m with
        | true =>
          rw [hx] at z
          have e1 : x = m := by simpa using hx
          cases z
          subst e1
          exact .inr ⟨Nat.le_refl _, List.mem_cons_self, (show Heap.IsCell _ _ _ from ⟨_, Heap.get?_push_size _ rfl, rfl⟩ : Heap.IsCell (h.push { cls := .type "cell", data := .cell none }) h.objs.size none).keeps (pushCells_keeps _ _)⟩
        | false =>
          rw [hx] at z
          exact .inl z
      · exact .inr ⟨by rw [hs] at z1; omega, List.mem_cons_of_mem _ z2, z3⟩
    · rw [if_neg hk] at e ⊢
      rcases cellsFrom_get r _ _ x c e with z | ⟨z1, z2, z3⟩
      · exact .inl z
      · exact .inr ⟨z1, List.mem_cons_of_mem _ z2, z3⟩
theorem cellsFrom_has : ∀ (names : List (Str × NameKind)) (n : Nat) (acc : List (Str × Addr)) (x : Str), ((x, NameKind.cell) ∈ names ∨ ∃ c, acc.lookup x = some c) → ∃ c, (cellsFrom n names acc).lookup x = some c
  | [], _, _, _, h => by
    rcases h with h | h
    · exact absurd h (by simp)
    · exact h
  | (m, k) :: r, n, acc, x, h => by
    unfold cellsFrom
    by_cases hk : (k == NameKind.cell) = true
    · rw [if_pos hk]
      refine cellsFrom_has r _ _ x ?_
      rcases h with h | ⟨c, h⟩
      · rcases List.mem_cons.mp h with e | e
        · cases e
          exact .inr ⟨n, by simp⟩
        · exact .inl e
      · refine .inr ?_
        rw [List.lookup_cons]
        cases x == m with
        | true => exact ⟨_, rfl⟩
        | false => exact ⟨c, h⟩
    · rw [if_neg hk]
      refine cellsFrom_has r _ _ x ?_
      rcases h with h | h
      · rcases List.mem_cons.mp h with e | e
        · cases e
          exact absurd rfl hk
        · exact .inl e
      · exact .inr h
theorem cellsFrom_new : ∀ (names : List (Str × NameKind)) (n0 n : Nat) (acc : List (Str × Addr)) (x : Str) (c : Addr), ((x, NameKind.cell) ∈ names ∨ ∀ c, acc.lookup x = some c → n0 ≤ c) → n0 ≤ n → (cellsFrom n names acc).lookup x = some c → n0 ≤ c
  | [], _, _, _, _, c, h, _, e => by
    rcases h with h | h
    · exact absurd h (by simp)
    · exact h c e
  | (m, k) :: r, n0, n, acc, x, c, h, hn, e => by
    unfold cellsFrom at e
    by_cases hk : (k == NameKind.cell) = true
    · rw [if_pos hk] at e
      refine cellsFrom_new r n0 (n + 1) _ x c ?_ (Nat.le_succ_of_le hn) e
      rcases h with h | h
      · rcases List.mem_cons.mp h with z | z
        · cases z
          exact .inr fun c hc => by
            simp at hc
            subst hc
            exact hn
        · exact .inl z
      · refine .inr fun c hc => ?_
        rw [List.lookup_cons] at hc
        cases hx : x == m with
        | true => rw [hx] at hc; cases hc; exact hn
        | false => rw [hx] at hc; exact h c hc
    · rw [if_neg hk] at e
      refine cellsFrom_new r n0 n _ x c ?_ hn e
      rcases h with h | h
      · rcases List.mem_cons.mp h with z | z
        · cases z
          exact absurd rfl hk
        · exact .inl z
      · exact .inr h
theorem cellsFrom_inj : ∀ (names : List (Str × NameKind)) (n : Nat) (acc : List (Str × Addr)), (∀ x y c, acc.lookup x = some c → acc.lookup y = some c → x = y) → (∀ x c, acc.lookup x = some c → c < n) →
    ∀ x y c, (cellsFrom n names acc).lookup x = some c → (cellsFrom n names acc).lookup y = some c → x = y
  | [], _, _, h, _ => h
  | (m, k) :: r, n, acc, h, hl => by
    intro x y c e1 e2
    unfold cellsFrom at e1 e2
    by_cases hk : (k == NameKind.cell) = true
    · rw [if_pos hk] at e1 e2
      refine cellsFrom_inj r (n + 1) _ ?_ ?_ x y c e1 e2
      · intro x y c h1 h2
        rw [List.lookup_cons] at h1 h2
        cases hx : x == m with
        | true =>
          rw [hx] at h1
          cases h1
          cases hy : y == m with
          | true => exact (by simpa using hx : x = m).trans (by simpa using hy : y = m).symm
          | false => rw [hy] at h2; exact absurd (hl y _ h2) (Nat.lt_irrefl _)
        | false =>
          rw [hx] at h1
          cases hy : y == m with
          | true => rw [hy] at h2; cases h2; exact absurd (hl x _ h1) (Nat.lt_irrefl _)
          | false => rw [hy] at h2; exact h x y c h1 h2
      · intro x c h1
        rw [List.lookup_cons] at h1
        cases hx : x == m with
        | true => rw [hx] at h1; cases h1; exact Nat.lt_succ_self _
        | false => rw [hx] at h1; exact Nat.lt_succ_of_lt (hl x c h1)
    · rw [if_neg hk] at e1 e2
      exact cellsFrom_inj r n acc h hl x y c e1 e2
theorem newEnv_cells {M : Model} {A : Around} {E : Value → Shared → Prop} {s : Shared} {scope : Scope} {globals : Addr} {closure : List (Str × Addr)} {qual : Str} {around : Env} {Q : Env → Shared → Prop}
    (hQ : Q (newEnv scope s.heap.objs.size globals (cellsFrom (s.heap.objs.size + 1) scope.names closure) qual none .none (some around) builtinsNs) { s with heap := pushCells (s.heap.push { cls := .type "dict", data := .dict #[] }) scope.names }) :
    wpAny M A (newFunctionEnv scope globals closure [] qual none .none (some around)) Q E s := by
  simp only [newFunctionEnv, Option.isSome_some, if_true]
  refine wpAny_bind (wpAny_alloc ?_)
  refine wpAny_bind (wpAny_layCells _ (fun name kind cells => by cases hkc : kind == NameKind.cell <;> simp [hkc]) _ _ _ _ ?_)
  rw [show ({ s with heap := s.heap.push { cls := .type "dict", data := .dict #[] } } : Shared).heap.objs.size = s.heap.objs.size + 1 from Heap.size_push ..]
  exact wpAny_bind (wpAny_pure (wpAny_pure hQ))

theorem relabel_cellN {env : Env} : ∀ {names : List (Str × NameKind)} {x : Str}, names.lookup x = some .cell →
    (names.map fun (n, k) => if (k == NameKind.free && env.scope.kind == .function && env.kindOf n == some .cell) then (n, NameKind.cell) else (n, k)).lookup x = some .cell
  | [], _, h => by simp at h
  | (n, k) :: r, x, h => by
    have ih := @relabel_cellN env r x
    show List.lookup x ((if (k == NameKind.free && env.scope.kind == .function && env.kindOf n == some .cell) = true then (n, NameKind.cell) else (n, k)) :: _) = _
    cases hx : x == n with
    | true =>
      simp only [List.lookup_cons, hx] at h
      cases h
      rw [if_neg (by simp)]
      simp [List.lookup_cons, hx]
    | false =>
      simp only [List.lookup_cons, hx] at h
      by_cases hc : (k == NameKind.free && env.scope.kind == .function && env.kindOf n == some .cell) = true
      · rw [if_pos hc]; simp only [List.lookup_cons, hx]; exact ih h
      · rw [if_neg hc]; simp only [List.lookup_cons, hx]; exact ih h
theorem relabel_cell {scope : Scope} {env : Env} {x : Str} (h : scope.names.lookup x = some .cell) : (relabel scope env).names.lookup x = some .cell := relabel_cellN h

def celC (X : Cx) (scope : Scope) (C : Addr) : List (Str × Addr) := cellsFrom (C + 1) scope.names (clOf X.env scope.names [])
def cxD (X : Cx) (scope : Scope) (C : Addr) (N : List Str) (s₂ : Shared) (H₂ : Hp) (ex : List Addr) (xb : Value → Shared → Prop) : Cx :=
  { X with N := N, s₀ := s₂, H₀ := H₂, env := compEnvC scope (celC X scope C) C X.env, outer := X.stack, stack := X.stack, ex := ex, fn := fun x => scope.names.lookup x == some .cell, pn := [], xe := xb }
structure CompOkD (X : Cx) (scope : Scope) (N : List Str) (fr : List (Option Nat)) : Prop where
  kind : scope.kind = .function
  own : ∀ y ∈ scope.names, y.2 = .cell → scope.names.lookup y.1 = some .cell
  names : ∀ y ∈ scope.names, y.2 = .local → scope.names.lookup y.1 = some .local
  frees : ∀ y ∈ scope.names, y.2 = .free → X.env.kindOf y.1 = some .cell ∨ X.env.kindOf y.1 = some .free
  fr : FrOk X scope N fr
section
variable {X : Cx} {scope : Scope} {N : List Str} {fr : List (Option Nat)} {xb : Value → Shared → Prop}
theorem CompOkD.cells (c : CompOkD X scope N fr) (ok : X.Ok) : ∀ y ∈ scope.names, y.2 = .free → ∃ c, X.env.cells.lookup y.1 = some c := fun y hy e => ok.has y.1 (c.frees y hy e)
theorem CompOkD.getC (c : CompOkD X scope N fr) (ok : X.Ok) {x : Str} {a : Addr} (h : (clOf X.env scope.names []).lookup x = some a) : X.env.cells.lookup x = some a :=
  clOf_get scope.names [] (c.cells ok) (fun _ _ z => by simp at z) h
/-- a name's cell: one of the context's, or a new one -/
theorem CompOkD.get (c : CompOkD X scope N fr) (ok : X.Ok) {g : Heap} {x : Str} {a : Addr} (h : (celC X scope g.objs.size).lookup x = some a) :
    X.env.cells.lookup x = some a ∨ (g.objs.size < a ∧ (x, NameKind.cell) ∈ scope.names ∧ (pushCells (g.push { cls := .type "dict", data := .dict #[] }) scope.names).IsCell a none) := by
  have hs : (g.push { cls := .type "dict", data := .dict #[] }).objs.size = g.objs.size + 1 := Heap.size_push ..
  unfold celC at h
  rw [← hs] at h
  rcases cellsFrom_get _ _ _ _ _ h with z | ⟨z1, z2, z3⟩
  · exact .inl (c.getC ok z)
  · exact .inr ⟨by rw [hs] at z1; exact z1, z2, z3⟩
/-- where the block's cells lie -/
structure Cel (X : Cx) (scope : Scope) (C : Addr) (h : Heap) : Prop where
  get : ∀ x a, (celC X scope C).lookup x = some a → X.env.cells.lookup x = some a ∨ (C < a ∧ (x, NameKind.cell) ∈ scope.names ∧ h.IsCell a none)
theorem compD_ok {pins : List (Addr × Obj)} {σ : St} {H : Hp} {s₂ : Shared} {C : Addr} {fp : List Addr} {h₁ : Heap} (c : CompOkD X scope N fr) (I : Inv X pins σ H s₂) (hC : s₂.heap.objs.size ≤ C) (hcel : Cel X scope C h₁) (hfp : ∀ b ∈ fp, FpOk X pins H b ∧ b < s₂.heap.objs.size) :
    (cxD X scope C N s₂ H fp xb).Ok where
  mod := I.ok.mod
  kind := c.kind
  glob := I.ok.glob
  blt := I.ok.blt
  above := hC
  inj := cellsFrom_inj _ _ _ (fun x y a h1 h2 => I.ok.inj x y a (c.getC I.ok h1) (c.getC I.ok h2)) fun x a h => by
    obtain ⟨v, z⟩ := I.cell x a (c.getC I.ok h)
    exact Nat.lt_succ_of_lt (Nat.lt_of_lt_of_le z.lt hC)
  has := fun x h => by
    refine cellsFrom_has _ _ _ _ ?_
    rcases h with h | h
    · rcases relabel_get h with z | ⟨_, z⟩
      · exact .inl z
      · exact .inr (clOf_has scope.names [] (.inl z))
    · rcases relabel_get h with z | ⟨z, _⟩
      · exact .inr (clOf_has scope.names [] (.inl z))
      · cases z
  cab := fun x a hx h => by
    have hx' : scope.names.lookup x = some .cell := by simpa [cxD] using hx
    exact Nat.le_trans hC (cellsFrom_new _ C _ _ x a (.inl (PySem.mem_of_lookup hx')) (Nat.le_succ _) h)
  hd := I.ok.hd
  frames := I.ok.frames
  stk := .inl rfl
  exf := fun b hb => ⟨Nat.ne_of_lt (Nat.lt_of_lt_of_le (hfp b hb).2 hC), fun x a h => by
    rcases hcel.get x a h with z | ⟨z, _⟩
    · exact (hfp b hb).1.2.2.2.2.1 x a z
    · exact Nat.ne_of_gt (Nat.lt_trans (Nat.lt_of_lt_of_le (hfp b hb).2 hC) z)⟩
  bs := I.bs
  bsz := Nat.le_trans I.ok.bsz I.sz
  noex := fun b o e hb => by
    rcases (hfp b hb).1.2.2.2.1 with z | z
    · exact I.ok.noex b o e z
    · have h1 : b < X.base.objs.size := Heap.lt_size e
      have h2 := I.ok.bsz
      exact absurd (Nat.lt_of_lt_of_le h1 (Nat.le_trans h2 z)) (Nat.lt_irrefl _)
  exfs := fun b hb z => by
    rcases List.mem_cons.mp (I.stkSub b z) with e | e
    · exact (hfp b hb).1.2.1 e
    · exact (hfp b hb).1.2.2.1 e
  funs := I.stack
  frf := I.stkFree
theorem compD_inv {pins : List (Addr × Obj)} {σ : St} {H : Hp} {s₂ : Shared} {C : Addr} {fp : List Addr} {h₄ : Heap} {tk : Nat} (c : CompOkD X scope N fr) (I : Inv X pins σ H s₂) (hC : s₂.heap.objs.size ≤ C) (hcel : Cel X scope C h₄) (hfp : ∀ b ∈ fp, FpOk X pins H b ∧ b < s₂.heap.objs.size)
    (hk : ∀ b o, s₂.heap.get? b = some o → h₄.get? b = some o) (hn : h₄.Ns C fun _ => none) : Inv (cxD X scope C N s₂ H fp xb) [] (stC fr σ) H { s₂ with heap := h₄, toks := tk } := by
  refine ⟨compD_ok c I hC hcel hfp, rfl, I.bare, Un.kept hk, ⟨_, hn, fun i x v e1 e2 e3 => ?_⟩, fun x a e => ?_, I.hok.fresh hC, fun x a e => ?_, fun p hp => absurd (show p ∈ ([] : List (Addr × Obj)) from hp) (by simp), I.hok.kept hk, ?_⟩
  · obtain ⟨j, f1, f2⟩ := stC_get e2
    obtain ⟨g1, g2, g3⟩ := c.fr.get e1 f1
    obtain ⟨m, hm, hl⟩ := I.loc
    have vis : Vis X.env.scope x := by
      rcases g2 with g | g
      · exact .inr (.inl g)
      · exact .inr (.inr g)
    obtain ⟨u, ru, lk⟩ := hl j x v g1 f2 vis
    refine ⟨u, ru, ?_⟩
    rcases lk with ⟨k, _⟩ | ⟨_, a, ea, o, ho, hd⟩
    · rcases g2 with g | g <;> (rw [k] at g; cases g)
    · obtain ⟨a', ea'⟩ := cellsFrom_has scope.names (C + 1) (clOf X.env scope.names []) x (.inr (clOf_has (env := X.env) scope.names [] (.inl (PySem.mem_of_lookup g3))))
      have e5 : X.env.cells.lookup x = some a' := by
        rcases hcel.get x a' ea' with z | ⟨_, z, _⟩
        · exact z
        · rw [c.own _ z rfl] at g3; cases g3
      rw [ea] at e5
      cases e5
      have kd : (cxD X scope C N s₂ H fp xb).env.kindOf x = some .cell ∨ (cxD X scope C N s₂ H fp xb).env.kindOf x = some .free := relabel_free g3
      exact .inr ⟨kd, a, ea', o, hk _ _ ho, hd⟩
  · rcases hcel.get x a e with z | ⟨_, _, z⟩
    · obtain ⟨v, o, ho, hd⟩ := I.cell x a z
      exact ⟨v, o, hk _ _ ho, hd⟩
    · exact ⟨_, z⟩
  · rcases hcel.get x a e with z | ⟨z, _⟩
    · exact I.freeC x a z
    · exact I.hok.fresh (Nat.le_of_lt (Nat.lt_of_le_of_lt hC z))
  · unfold stC
    rw [List.length_map]
    exact c.fr.len
end

section
variable {prog : Program} {w : World} {A : Around} {EE : Value → Shared → Prop} {R : Result → Shared → Prop} {s : Shared}
/-- a turn of the block's loop at its last clause -/
theorem compLoop_last {elt target iter : Expr} {ifs : List Expr} {gens : List Comprehension} {d : Nat} {scope : Scope} {pos : Pos} {it acc : Value} {env : Env}
    (hct : compTurn (.ListComp elt gens scope pos) d it acc env = (do
      standAt iter.pos
      match ← pyNext it with
      | none => pure (.done .next)
      | some v =>
        letOwnedTupleGo target it v
        assign target env v
        let mut ok := true
        for c in ifs do
          if ok then ok ← isTrue c env (eval c env)
        if ok then
          (do let _ ← call (.builtin "list.append") [acc, ← eval elt env])
        again (.compLoop (.ListComp elt gens scope pos) d it acc env)))
    (hE : ∀ x s, EE x s → notedBy (model prog w) A env (fun e s' => R (.error e) s') x s) (I : Nat → Shared → Prop)
    (turn : ∀ n s, I n s → wpAny (model prog w) A (pyNext it) (fun r s₁ => match r with
      | none => R (.ok .next) s₁
      | some v => wpAny (model prog w) A (letOwnedTupleGo target it v) (fun _ s₀ => wpAny (model prog w) A (assign target env v) (fun _ s₂ =>
          wpAny (model prog w) A (forIn ifs true fun c r => if r = true then do let ok ← isTrue c env (eval c env); pure (ForInStep.yield ok) else pure (ForInStep.yield r)) (fun ok s₃ =>
            if ok = true then wpAny (model prog w) A (eval elt env) (fun x s₄ =>
              wpAny (model prog w) A (call (.builtin "list.append") [acc, x]) (fun _ s₅ => ∃ m, m < n ∧ I m s₅) EE s₄) EE s₃
            else ∃ m, m < n ∧ I m s₃) EE s₂) EE s₀) EE s₁) EE s)
    (n : Nat) (h : I n s) :
    codeAny (model prog w) A (.compLoop (.ListComp elt gens scope pos) d it acc env) R s := by
  refine codeAny_loop rfl I (fun n s hI => ?_) n h
  show wpAny _ A ((compTurn (.ListComp elt gens scope pos) d it acc env).onRaise (fun x => do noteFrame x env; theTreesLotGoes x)) _ _ s
  refine wpAny_noted ?_
  rw [hct]
  have nf : ∀ {α : Type} {m : Sem α} {Q : α → Shared → Prop} {s : Shared}, wpAny (model prog w) A m Q EE s → wpAny (model prog w) A m Q (notedBy (model prog w) A env fun e s' => R (.error e) s') s := fun h => wpAny_mono h (fun _ _ x => x) hE
  refine wpAny_bind (wpAny_standAt (wpAny_bind (wpAny_mono (nf (turn n s hI)) (fun r s₁ h₁ => ?_) fun _ _ h' => h')))
  cases r with
  | none => exact wpAny_pure h₁
  | some v =>
    refine wpAny_bind (wpAny_mono (nf h₁) (fun _ s₀ h₀ => ?_) fun _ _ h' => h')
    refine wpAny_bind (wpAny_mono (nf h₀) (fun _ s₂ h₂ => wpAny_bind (wpAny_mono (nf h₂) (fun ok s₃ h₃ => ?_) fun _ _ h' => h')) fun _ _ h' => h')
    cases ok with
    | false => exact wpAny_pure ⟨rfl, h₃⟩
    | true =>
      exact wpAny_bind (wpAny_bind (wpAny_mono (nf h₃) (fun x s₄ h₄ => wpAny_bind (wpAny_mono (nf h₄) (fun _ s₅ h₅ => wpAny_pure (wpAny_pure ⟨rfl, h₅⟩)) fun _ _ h' => h')) fun _ _ h' => h'))
end

/-- the list that grows, apart from all else -/
structure DOk (X : Cx) (D : Addr) : Prop where
  ne : D ≠ X.env.locals
  ab : X.s₀.heap.objs.size ≤ D
  cl : ∀ x a, X.env.cells.lookup x = some a → a ≠ D
  fs : D ∉ X.fs
theorem lob_pin {us : List Value} {k : Nat} : ∀ v, (lob us k).data ≠ .cell v := fun v e => by cases (show Data.seq us.toArray k = Data.cell v from e)
/-- the invariant of a loop over a clause that is the last one -/
def LastI (J : It) (g : TG) (ti : TT) (te : TE) (σc : St) (ys0 : List V) (H1 : Hp) (Z : List V → Hp → Prop) : Prop := ∃ W : Nat → Nat → List V → Hp → Prop, (∃ m, W 0 m ys0 H1) ∧ ∀ i m ys H, W i m ys H → ys.length < sizeLine ∧
  ((J.stop i H ∧ Z ys H) ∨ (J.go i H ∧ ∃ M : List V → Hp → Prop, (∀ ys' H', M ys' H' → ∃ m', m' < m ∧ W (i + 1) m' ys' H') ∧
    ∀ x H', J.yld i H x H' → g x σc H' fun σ2 H2 => ti σ2 H2 fun b H3 => if b = true then te σ2 H3 fun y H4 => M (ys ++ [y]) H4 else M ys H3))
section
variable {X : Cx} {scope : Scope} {fr1 : List (Option Nat)} {tg iter elt : Expr} {ifs : List Expr} {gens : List Comprehension} {d : Nat} {pos : Pos} {J : It} {g : TG} {ti : TT} {te : TE} {R : Result → Shared → Prop}
theorem last_loop {pins : List (Addr × Obj)} {σ0 : St} {H0 : Hp} {s0 : Shared} {it D : Addr} {fp : List Addr} {tn : Nat → Heap → Prop} {us0 : List Value} {k0 : Nat} {ys0 : List V} {Z : List V → Hp → Prop}
    (hct : ∀ acc, compTurn (.ListComp elt gens scope pos) d (.ref it) acc X.env = (do
      standAt iter.pos
      match ← pyNext (.ref it) with
      | none => pure (.done .next)
      | some v =>
        letOwnedTupleGo tg (.ref it) v
        assign tg X.env v
        let mut ok := true
        for c in ifs do
          if ok then ok ← isTrue c X.env (eval c X.env)
        if ok then
          (do let _ ← call (.builtin "list.append") [acc, ← eval elt X.env])
        again (.compLoop (.ListComp elt gens scope pos) d (.ref it) acc X.env)))
    (hc : X.calm = true) (I : Inv X pins σ0 H0 s0) (hσ : ∀ (i : Nat) v, σ0[i]? = some (some v) → ∃ j, fr1[i]? = some (some j)) (gw : GW fr1 g)
    (T : Turn X.prog X.w X.K tg J fp it tn) (st : tn 0 s0.heap) (hfp : ∀ b ∈ fp, FpOk X pins H0 b)
    (hD : s0.heap.get? D = some (lob us0 k0)) (hv : Vals ys0 us0) (hDH : H0 D = none) (hDx : DOk X D) (hDp : ∀ p ∈ X.pn ++ pins, p.1 ≠ D) (hDf : D ∉ fp)
    (hg : PG X tg g) (hi : PIfs X ifs ti) (he : PE X elt te) (hq : LastI J g ti te σ0 ys0 H0 Z)
    (hR : ∀ ys us k H s, Inv X pins σ0 H s → s.heap.get? D = some (lob us k) → Vals ys us → H D = none → ys.length < sizeLine → Z ys H → R (.ok .next) s)
    (hE : ∀ x s, X.xe x s → notedBy (model X.prog X.w) X.A X.env (fun e s' => R (.error e) s') x s) :
    codeAny (model X.prog X.w) X.A (.compLoop (.ListComp elt gens scope pos) d (.ref it) (.ref D) X.env) R s0 := by
  obtain ⟨W, ⟨m0, w0⟩, turn⟩ := hq
  refine compLoop_last (EE := X.xe) (hct _) hE (fun n s' => ∃ i ys us k H', Inv X pins σ0 H' s' ∧ tn i s'.heap ∧ (∀ b ∈ fp, H' b = none) ∧ s'.heap.get? D = some (lob us k) ∧ Vals ys us ∧ H' D = none ∧ W i n ys H') ?_ m0
    ⟨0, ys0, us0, k0, H0, I, st, fun b hb => (hfp b hb).1, hD, hv, hDH, w0⟩
  rintro n s3 ⟨i, ys, us, k, H3, I3, st3, fr3, hD3, rv3, hDn3, w3⟩
  obtain ⟨hlen, alt⟩ := turn i n ys H3 w3
  have I3p : Inv X (pins ++ [(D, lob us k)]) σ0 H3 s3 := I3.pins_of fun p hp => by
    rcases List.mem_append.mp hp with z | z
    · exact I3.pin p (List.mem_append_right _ z)
    · have e : p = (D, lob us k) := by simpa using z
      subst e
      exact ⟨hD3, hDn3, hDx.ne, hDx.fs, lob_pin⟩
  have stat : ∀ {H' : Hp}, (∀ b ∈ fp, H' b = none) → ∀ b ∈ fp, FpOk X (pins ++ [(D, lob us k)]) H' b := fun hn b hb => by
    obtain ⟨q1, q2, q3, q4, q5, q6⟩ := hfp b hb
    refine ⟨hn b hb, q2, q3, q4, q5, fun p hp => ?_⟩
    rcases List.mem_append.mp hp with z | z
    · exact q6 p (List.mem_append_left _ z)
    · rcases List.mem_append.mp z with z | z
      · exact q6 p (List.mem_append_right _ z)
      · have e : p = (D, lob us k) := by simpa using z
        subst e
        rintro rfl
        exact hDf hb
  rcases alt with ⟨stop, qn⟩ | ⟨go, M, hM, step⟩
  · refine thn (T.done X rfl rfl rfl hc i _ s3 _ H3 _ I3p (stat fr3) st3 stop) fun r s4 ⟨hr, I4⟩ => ?_
    subst hr
    have pD := (I4.pin (D, lob us k) (by simp)).1
    exact hR ys us k H3 s4 (I4.pins_of fun p hp => I4.pin p (List.mem_append_right _ (List.mem_append_left _ hp))) pD rv3 hDn3 hlen qn
  · refine thn (T.item X rfl rfl rfl hc i _ s3 _ H3 _ I3p (stat fr3) st3 go) fun r s4 ⟨u, hr, h4⟩ => ?_
    subst hr
    refine thn h4 fun _ s5 ⟨x, H5, I5, r5, y5, st5, fr5⟩ => ?_
    have I5' := I5.pinned (stat fr5) (T.obj _ _ st5)
    refine thn (hg _ s5 _ H5 x u _ I5' r5 (gw x _ H5 _ _ (fun σ2 H2 wk q => And.intro wk q) (step x H5 y5))) fun _ s6 ⟨σ6, H6, I6, wk6, q6⟩ => ?_
    refine thn (hi _ s6 σ6 H6 _ I6 q6) fun ok s7 ⟨H7, I7, q7⟩ => ?_
    have back : ∀ {σ8 : St} {H8 : Hp} {s8 : Shared}, σ8 = σ6 → Inv X ((pins ++ [(D, lob us k)]) ++ pinsAt fp s5.heap) σ8 H8 s8 → Inv X pins σ0 H8 s8 ∧ tn (i + 1) s8.heap ∧ (∀ b ∈ fp, H8 b = none) ∧ s8.heap.get? D = some (lob us k) ∧ H8 D = none := fun {σ8 H8 s8} e8 I8 => by
      subst e8
      have pf : ∀ b o, b ∈ fp → s5.heap.get? b = some o → s8.heap.get? b = some o ∧ H8 b = none := fun b o hb e => by
        have := I8.pin (b, o) (List.mem_append_right _ (List.mem_append_right _ (mem_pinsAt hb e)))
        exact ⟨this.1, this.2.1⟩
      refine ⟨(I8.pins_of (pins' := pins) fun p hp => I8.pin p (List.mem_append_right _ (List.mem_append_left _ (List.mem_append_left _ hp)))).weak wk6.1.symm fun a v e => ?_, T.keep _ _ _ st5 fun b hb o e => (pf b o hb e).1, fun b hb => ?_, (I8.pin (D, lob us k) (by simp)).1, (I8.pin (D, lob us k) (by simp)).2.1⟩
      · obtain ⟨j, f1⟩ := hσ a v e
        rw [wk6.2 a j f1]
        exact e
      · obtain ⟨o, e, _⟩ := T.obj _ _ st5 b hb
        exact (pf b o hb e).2
    cases ok with
    | false =>
      obtain ⟨m', hm, w7⟩ := hM _ _ (by simpa using q7)
      obtain ⟨a1, a2, a3, a4, a5⟩ := back rfl I7
      exact ⟨m', hm, i + 1, ys, us, k, H7, a1, a2, a3, a4, rv3, a5, w7⟩
    | true =>
      have q7' : te σ6 H7 fun y H4 => M (ys ++ [y]) H4 := by simpa using q7
      refine thn (he _ s7 σ6 H7 _ I7 q7') fun v s8 ⟨y, H8, I8, ry, q8⟩ => ?_
      obtain ⟨m', hm, w8⟩ := hM _ _ q8
      obtain ⟨a1, a2, a3, a4, a5⟩ := back rfl I8
      have hus : us.toArray.size ≤ sizeLine := by
        rw [List.size_toArray, ← rv3.length]
        exact Nat.le_of_lt hlen
      refine wpAny_list_append_plain (hsz := hus) (l := D) (items := us.toArray) ⟨_, a4⟩ fun h₅ hl₅ hs₅ => ?_
      obtain ⟨k', hl₅'⟩ := hl₅
      refine ⟨m', hm, i + 1, ys ++ [y], us ++ [v], k', H8, a1.turned (t' := s8.toks) (fun b o hb e => (hs₅.2 b hb).trans e) a5 hDx.ne (.inr hDx.ab) hDx.cl hDp, T.keep _ _ _ a2 fun b hb o e => (hs₅.2 b (fun z => hDf (z ▸ hb))).trans e, a3, ?_, rv3.append (.cons ry .nil), a5, w8⟩
      show h₅.get? D = _
      rw [hl₅']
      simp [lob]
end
section
variable {X : Cx} {scope : Scope} {N : List Str} {fr : List (Option Nat)} {tg iter elt : Expr} {ifs : List Expr} {rest : List Comprehension} {pos : Pos} {J : It} {xb : Addr → Value → Shared → Prop}
/-- what holds when the block's loop begins -/
structure Beg (X : Cx) (scope : Scope) (N : List Str) (fr : List (Option Nat)) (xb : Addr → Value → Shared → Prop) (pins : List (Addr × Obj)) (σ : St) (H : Hp) (s₂ : Shared) (fp : List Addr) (D C : Addr) (h₁ : Heap) : Prop where
  ix : Inv X pins σ H s₂
  ds : s₂.heap.objs.size = D
  dc : D < C
  cel : Cel X scope C h₁
  inv : Inv (cxD X scope C N s₂ H fp (xb C)) [] (stC fr σ) H { s₂ with heap := h₁ }
  fpk : ∀ b ∈ fp, FpOk X pins H b ∧ b < s₂.heap.objs.size
  acc : h₁.get? D = some (lob [] 0)
  free : H D = none
section
variable {pins : List (Addr × Obj)} {σ : St} {H : Hp} {s₂ : Shared} {fp : List Addr} {D C : Addr} {h₁ : Heap}
theorem Beg.dok (B : Beg X scope N fr xb pins σ H s₂ fp D C h₁) : DOk (cxD X scope C N s₂ H fp (xb C)) D where
  ne := Nat.ne_of_lt B.dc
  ab := Nat.le_of_eq B.ds
  cl := fun x a e => by
    rcases B.cel.get x a e with z | ⟨z, _⟩
    · obtain ⟨v, q⟩ := B.ix.cell x a z
      have := q.lt
      rw [B.ds] at this
      exact Nat.ne_of_lt this
    · exact Nat.ne_of_gt (Nat.lt_trans B.dc z)
  fs := fun z => by
    have z' : D ∈ frs X.stack := z
    rcases List.mem_cons.mp (B.ix.stkSub D z') with e | e
    · have := B.ix.lt
      rw [← e, B.ds] at this
      exact Nat.lt_irrefl _ this
    · exact B.ix.nofs (Nat.le_of_eq B.ds) e
theorem Beg.fpD (B : Beg X scope N fr xb pins σ H s₂ fp D C h₁) : D ∉ fp := fun hb => by
  have := (B.fpk D hb).2
  rw [B.ds] at this
  exact Nat.lt_irrefl _ this
theorem Beg.fpo (B : Beg X scope N fr xb pins σ H s₂ fp D C h₁) : ∀ b ∈ fp, FpOk (cxD X scope C N s₂ H fp (xb C)) [] H b := fun b hb => by
  obtain ⟨q1, q2⟩ := B.fpk b hb
  refine ⟨q1.1, ?_, fun z => B.inv.ok.exfs b hb z, .inl hb, fun x a e => (B.inv.ok.exf b hb).2 x a e, fun p hp => absurd (show p ∈ ([] : List (Addr × Obj)) from hp) (by simp)⟩
  exact (B.inv.ok.exf b hb).1
theorem Beg.back (B : Beg X scope N fr xb pins σ H s₂ fp D C h₁) {H3 : Hp} {s4 : Shared} {ys : List V} {us : List Value} {k : Nat} (I4 : Inv (cxD X scope C N s₂ H fp (xb C)) [] (stC fr σ) H3 s4) (hD : s4.heap.get? D = some (lob us k)) (rv : Vals ys us) (hn : H3 D = none) (hl : ys.length < sizeLine) :
    Inv X pins σ (upd H3 D (.lst ys)) s4 ∧ Aside X pins (upd H3 D (.lst ys)) C ∧ ∃ m, s4.heap.Ns C m := by
  have IX : Inv X pins σ H3 s4 := B.ix.call' I4.os I4.base I4.hok I4.bare fun b hb => by
    obtain ⟨q1, q2, q3, q4, q5, q6⟩ := (B.fpk b hb).1
    exact ⟨q4, q2, q5, q6⟩
  have aD : Aside X pins H3 D := B.ix.aside (Nat.le_of_eq B.ds) hn
  refine ⟨IX.track hn aD.ne aD.ab aD.cl aD.pn ⟨Nat.le_of_lt hl, us, k, rv, hD⟩, B.ix.aside (by rw [B.ds]; exact Nat.le_of_lt B.dc) ?_, ?_⟩
  · rw [upd_ne (Nat.ne_of_gt B.dc)]
    exact I4.free
  · obtain ⟨m, hm, _⟩ := I4.loc
    exact ⟨m, hm⟩
end
theorem stC_some {fr : List (Option Nat)} {σ : St} : ∀ (i : Nat) v, (stC fr σ)[i]? = some (some v) → ∃ j, fr[i]? = some (some j) := fun i v e => by
  obtain ⟨j, f, _⟩ := stC_get e
  exact ⟨j, f⟩
theorem comp_coreG {pins : List (Addr × Obj)} {σ : St} {H : Hp} {s₂ : Shared} {it : Addr} {fp : List Addr} {tn : Nat → Heap → Prop} {E : Value → Shared → Prop} (c : CompOkD X scope N fr) (I : Inv X pins σ H s₂)
    (T : Turn X.prog X.w X.K tg J fp it tn) (st : tn 0 s₂.heap) (hfp : ∀ b ∈ fp, FpOk X pins H b) {RR : Value → Addr → Result → Shared → Prop}
    (hloop : ∀ D C h₁, Beg X scope N fr xb pins σ H s₂ fp D C h₁ → tn 0 h₁ → codeAny (model X.prog X.w) X.A (.compLoop (.ListComp elt (⟨tg, iter, ifs, 0⟩ :: rest) scope pos) 0 (.ref it) (.ref D) (cxD X scope C N s₂ H fp (xb C)).env) (RR (.ref D) C) { s₂ with heap := h₁ }) :
    wpAny (model X.prog X.w) X.A (newList []) (fun acc s₃ => wpAny (model X.prog X.w) X.A (newFunctionEnv scope X.env.globals (clOf X.env scope.names []) [] X.env.qual none .none (some X.env)) (fun cenv s₄ =>
      codeAny (model X.prog X.w) X.A (.compStart (.ListComp elt (⟨tg, iter, ifs, 0⟩ :: rest) scope pos) 0 (.ref it) acc { cenv with scope := relabel scope X.env }) (RR acc cenv.locals) s₄) E s₃) E s₂ := by
  refine wpAny_newObj_type (newEnv_cells ?_)
  dsimp only
  generalize hH2 : s₂.heap.push { cls := .type "list", dict := none, data := .seq ([] : List Value).toArray } = H2
  have hC : H2.objs.size = s₂.heap.objs.size + 1 := by rw [← hH2, Heap.size_push]
  have old : ∀ b o, H2.get? b = some o → (pushCells (H2.push { cls := .type "dict", data := .dict #[] }) scope.names).get? b = some o := fun b o e => pushCells_keeps _ _ _ _ (Heap.get?_push_of_some _ e)
  have old2 : ∀ b o, s₂.heap.get? b = some o → (pushCells (H2.push { cls := .type "dict", data := .dict #[] }) scope.names).get? b = some o := fun b o e => old b o (hH2 ▸ Heap.get?_push_of_some _ e)
  have hacc : (pushCells (H2.push { cls := .type "dict", data := .dict #[] }) scope.names).get? s₂.heap.objs.size = some (lob [] 0) := old _ _ (hH2 ▸ Heap.get?_push_size _ rfl)
  have hns : (pushCells (H2.push { cls := .type "dict", data := .dict #[] }) scope.names).Ns H2.objs.size fun _ => none := (Heap.Ns.new H2 (.type "dict")).keeps (pushCells_keeps _ _)
  have hcel : Cel X scope H2.objs.size (pushCells (H2.push { cls := .type "dict", data := .dict #[] }) scope.names) := ⟨fun x a e => c.get I.ok e⟩
  have hfp2 : ∀ b ∈ fp, FpOk X pins H b ∧ b < s₂.heap.objs.size := fun b hb => ⟨hfp b hb, by obtain ⟨o, e, _⟩ := T.obj _ _ st b hb; exact Heap.lt_size e⟩
  have I0 := compD_inv (xb := xb H2.objs.size) (tk := s₂.toks) c I (by rw [hC]; exact Nat.le_succ _) hcel hfp2 old2 hns
  have st₁ := T.keep _ _ _ st fun b hb o e => old2 b o e
  have lp := hloop s₂.heap.objs.size H2.objs.size _ ⟨I, rfl, by rw [hC]; exact Nat.lt_succ_self _, hcel, I0, hfp2, hacc, I.hok.fresh (Nat.le_refl _)⟩ st₁
  exact codeAny_compStart_list lp (T.self _ _ _ _ _ st₁ lp)
end

section
variable {prog : Program} {w : World} {A : Around} {R : Result → Shared → Prop} {s : Shared}
end

def xNo : Addr → Value → Shared → Prop := fun _ _ _ => False
/-! ### one clause -/
theorem CompI.last {J : It} {g : TG} {ti : TT} {te : TE} {σc : St} {H1 : Hp} {Q : VK} (h : CompI J g ti te σc H1 Q) : LastI J g ti te σc [] H1 fun ys H => ∀ l, H l = none → Q (.ref l) (upd H l (.lst ys)) := h
section
variable {X : Cx} {scope : Scope} {N : List Str} {fr : List (Option Nat)} {tg iter elt : Expr} {ifs : List Expr} {pos : Pos} {g : TG} {ti : TT} {te : TE}
theorem one_loop {pins : List (Addr × Obj)} {σ : St} {H : Hp} {s₂ : Shared} {it D C : Addr} {fp : List Addr} {tn : Nat → Heap → Prop} {J : It} {h₁ : Heap} {Q : VK} {R : Result → Shared → Prop} (hc : X.calm = true) (B : Beg X scope N fr xNo pins σ H s₂ fp D C h₁) (T : Turn X.prog X.w X.K tg J fp it tn) (st : tn 0 h₁)
    (hg : PG (cxD X scope C N s₂ H fp (xNo C)) tg g) (hi : PIfs (cxD X scope C N s₂ H fp (xNo C)) ifs ti) (he : PE (cxD X scope C N s₂ H fp (xNo C)) elt te) (gw : GW fr g) (q : CompI J g ti te (stC fr σ) H Q)
    (hR : ∀ H' ys s', Inv X pins σ (upd H' D (.lst ys)) s' → Aside X pins (upd H' D (.lst ys)) C → (∃ m, s'.heap.Ns C m) → Q (.ref D) (upd H' D (.lst ys)) → R (.ok .next) s') :
    codeAny (model X.prog X.w) X.A (.compLoop (.ListComp elt [⟨tg, iter, ifs, 0⟩] scope pos) 0 (.ref it) (.ref D) (cxD X scope C N s₂ H fp (xNo C)).env) R { s₂ with heap := h₁ } := by
  refine last_loop (X := cxD X scope C N s₂ H fp (xNo C)) (fun acc => compTurn_list ..) hc B.inv stC_some gw T st B.fpo B.acc .nil B.free B.dok (fun p hp => absurd (show p ∈ ([] : List (Addr × Obj)) from hp) (by simp)) B.fpD hg hi he q.last ?_ fun _ _ z => z.elim
  intro ys us k H3 s4 I4 hD rv hn hl z
  obtain ⟨a, b, c⟩ := B.back I4 hD rv hn hl
  exact hR H3 ys s4 a b c (z D hn)
theorem pe_compD {wi : TI} (c : CompOkD X scope N fr) (hc : X.calm = true) (hi : PI X tg iter wi) (hg : ∀ C s₂ H fp, PG (cxD X scope C N s₂ H fp (xNo C)) tg g) (hf : ∀ C s₂ H fp, PIfs (cxD X scope C N s₂ H fp (xNo C)) ifs ti) (he : ∀ C s₂ H fp, PE (cxD X scope C N s₂ H fp (xNo C)) elt te) (gw : GW fr g)
    (hs : ∀ x, foldedSetIterable iter X.env x = pure x := by intro _; rfl) : PE X (.ListComp elt [⟨tg, iter, ifs, 0⟩] scope pos) (tComp fr wi g ti te) := by
  intro pins s σ H Q I h
  rw [eval_ListComp]
  refine wpAny_comprehension_free (use := none) rfl hs (closure_eq (c.cells I.ok)) c.kind c.names (thn (hi pins s σ H _ I h) fun v s1 h1 => thn h1 fun itv s2 h2 => ?_)
  obtain ⟨it, fp, tn, J, H2, e, I2, T, st2, f2, q⟩ := h2
  subst e
  refine comp_coreG (xb := xNo) (RR := fun acc C => compPost (model X.prog X.w) X.A X.xe none (EP X pins σ Q) acc C) c I2 T st2 f2 fun D C h₁ B st₁ => ?_
  refine one_loop (Q := Q) hc B T st₁ (hg C _ _ _) (hf C _ _ _) (he C _ _ _) gw q fun H' ys s' IT as hm q => ?_
  obtain ⟨m, hm⟩ := hm
  exact ⟨m, hm, fun h' sb => ⟨.ref D, _, IT.turned (t' := s'.toks) (fun b o hb e => (sb.2 b hb).trans e) as.fr as.ne (.inr as.ab) as.cl as.pn, rfl, q⟩⟩
end
/-! ### two clauses -/
def msk (fr1 : List (Option Nat)) (σ : St) : St := List.zipWith (fun f v => f.bind fun _ => v) fr1 σ
def CompI2 (J : It) (fr1 : List (Option Nat)) (g : TG) (ti : TT) (wi1 : TI) (g1 : TG) (ti1 : TT) (te : TE) (σc : St) (H1 : Hp) (Q : VK) : Prop := ∃ W : Nat → Nat → List V → Hp → Prop, (∃ m, W 0 m [] H1) ∧ ∀ i m ys H, W i m ys H → ys.length < sizeLine ∧
  ((J.stop i H ∧ ∀ l, H l = none → Q (.ref l) (upd H l (.lst ys))) ∨ (J.go i H ∧ ∃ M : List V → Hp → Prop, (∀ ys' H', M ys' H' → ∃ m', m' < m ∧ W (i + 1) m' ys' H') ∧
    ∀ x H', J.yld i H x H' → g x σc H' fun σ2 H2 => ti σ2 H2 fun b H3 => if b = true then wi1 σ2 H3 fun J1 H4 => LastI J1 g1 ti1 te (msk fr1 σ2) ys H4 M else M ys H3))
def tComp2 (fr fr1 : List (Option Nat)) (wi : TI) (g : TG) (ti : TT) (wi1 : TI) (g1 : TG) (ti1 : TT) (te : TE) : TE := fun σ H Q => wi σ H fun J H1 => CompI2 J fr1 g ti wi1 g1 ti1 te (stC fr σ) H1 Q
section
variable {X : Cx} {scope : Scope} {N : List Str} {fr fr1 : List (Option Nat)} {tg iter tg1 iter1 elt : Expr} {ifs ifs1 : List Expr} {pos : Pos} {g g1 : TG} {ti ti1 : TT} {te : TE} {wi1 : TI}
end
/-- a nested block's names: free ones are cells or free in the block around -/
theorem nestD_kind {X : Cx} {scope0 : Scope} {C : Addr} {N : List Str} {s₂ : Shared} {H₂ : Hp} {ex : List Addr} {xb : Value → Shared → Prop} {x : Str} (h : scope0.names.lookup x = some .free ∨ scope0.names.lookup x = some .cell) : (cxD X scope0 C N s₂ H₂ ex xb).env.kindOf x = some .cell ∨ (cxD X scope0 C N s₂ H₂ ex xb).env.kindOf x = some .free := by
  rcases h with h | h
  · exact relabel_free h
  · exact .inl (relabel_cell h)
theorem nestD_frees {X : Cx} {scope0 scope : Scope} {C : Addr} {N : List Str} {s₂ : Shared} {H₂ : Hp} {ex : List Addr} {xb : Value → Shared → Prop} (h : ∀ y ∈ scope.names, y.2 = .free → scope0.names.lookup y.1 = some .free ∨ scope0.names.lookup y.1 = some .cell) :
    ∀ y ∈ scope.names, y.2 = .free → (cxD X scope0 C N s₂ H₂ ex xb).env.kindOf y.1 = some .cell ∨ (cxD X scope0 C N s₂ H₂ ex xb).env.kindOf y.1 = some .free := fun y hy e => nestD_kind (h y hy e)
section
variable {g g1 : TG} {ti ti1 : TT} {te : TE} {wi1 : TI} {fr1 : List (Option Nat)} {σc : St} {H : Hp} {Q : VK}
end
end L2

set_option Elab.async false
set_option linter.all false
set_option maxRecDepth 100000
/-! Exceptions that leave a comprehension's block. -/
namespace L2
open PySem PySem.Spec PyProof.Rows
section
variable {M : Model} {A : Around} {E : Value → Shared → Prop} {s : Shared} {B : Heap} {env : Env} {outer : List Env} {L e : Addr}
/-- a frame is noted, whatever the flight is -/
theorem fly_looksA {cls fl : Value} {Q : Unit → Shared → Prop} (hfr : A.frames = some (env :: outer)) (hf : env.frame = some L) (x : FlyAt B (env :: outer) e cls fl s.heap) (k : ∀ h', FlyAt B (env :: outer) e cls (rawInt L) h' → s.heap.UpToSlots h' → Q () { s with heap := h' }) : wpAny M A (noteFrame (.ref e) env) Q E s := by
  obtain ⟨x1, x2, x3, oe, vs, T, oT, ts, t1, ⟨rfl, tdn⟩, t3, t4, t5, t6, t7, t8, t9⟩ := id x
  unfold noteFrame
  simp only [hf]
  refine wpAny_bind (wpAny_field t1 t3 t4 ?_)
  rw [if_pos (by simp)]
  refine wpAny_bind (wpAny_field t7 t8 t9 ?_)
  by_cases hfl : (fl == rawInt L) = true
  · rw [if_pos hfl]
    have e1 : fl = rawInt L := by simpa using hfl
    subst e1
    exact wpAny_pure (k _ x fun b o z _ => ⟨o.slots, z⟩)
  · rw [if_neg hfl]
    refine wpAny_bind (wpAny_setField t7 t8 (Array.getElem?_eq_some_iff.mp t9).1 ?_)
    have oth : ∀ b, b ≠ T → (s.heap.update T (Obj.mapFields (·.setIfInBounds 3 Value.none))).get? b = s.heap.get? b := fun b nb => Heap.get?_update_other _ _ (Ne.symm nb)
    have rec0 : ∀ b o, s.heap.get? b = some o → (∀ us, o.data ≠ .fields us) → b ≠ T := fun b o z hno q => by rw [q, t7] at z; cases z; exact hno ts t8
    refine fly_entry (s := { s with heap := s.heap.update T (Obj.mapFields (·.setIfInBounds 3 Value.none)) }) hfr (x3.of_keeps fun b o z hno => ⟨o, (oth b (rec0 b o z hno)).trans z, rfl⟩) hf ((oth e (Ne.symm t6)).trans t1)
      (fun b o z => (oth b fun q => by rw [q, t5] at z; cases z).trans (x1 b o z)) x2 t3 (Array.getElem?_eq_some_iff.mp t4).1 tdn fun h' f u => k h' f fun b o z hno => u b o ((oth b (rec0 b o z hno)).trans z) hno
theorem note_frame {cenv env : Env} (h : cenv.frame = env.frame) (v : Value) : noteFrame v cenv = noteFrame v env := by
  unfold noteFrame PySem.frameOf
  rw [h]
/-- the flight is set -/
theorem fly_flight {l : List Env} {cls fl : Value} (fr : Option Addr) {Q : Unit → Shared → Prop} (x : FlyAt B l e cls fl s.heap) (k : ∀ h', FlyAt B l e cls (fr.elim .none fun f => rawInt f) h' → s.heap.UpToSlots h' → Q () { s with heap := h' }) : wpAny M A (setFlight (.ref e) fr) Q E s := by
  obtain ⟨x1, x2, x3, oe, vs, T, oT, ts, t1, t2, t3, t4, t5, t6, t7, t8, t9⟩ := x
  have sz : 3 < ts.size := (Array.getElem?_eq_some_iff.mp t9).1
  unfold setFlight
  refine wpAny_bind (wpAny_field t1 t3 t4 ?_)
  rw [if_pos (by simp)]
  have oth : ∀ b, b ≠ T → (s.heap.update T (Obj.mapFields (·.setIfInBounds 3 (fr.elim .none fun f => rawInt f)))).get? b = s.heap.get? b := fun b nb => Heap.get?_update_other _ _ (Ne.symm nb)
  have rec0 : ∀ b o, s.heap.get? b = some o → (∀ us, o.data ≠ .fields us) → b ≠ T := fun b o z hno q => by rw [q, t7] at z; cases z; exact hno ts t8
  refine wpAny_setField t7 t8 sz (k _ ⟨fun b o z => ?_, x2, x3.of_keeps fun b o z hno => ⟨o, (oth b (rec0 b o z hno)).trans z, rfl⟩, oe, vs, T, _, _, (oth e (Ne.symm t6)).trans t1, t2, t3, t4, t5, t6, Heap.get?_update_self _ t7 (Obj.isFreed_of_fields (Obj.data_mapFields t8 _)), Obj.data_mapFields t8 _, by simp [sz]⟩ fun b o z hno => ⟨o.slots, (oth b (rec0 b o z hno)).trans z⟩)
  exact (oth b fun q => by rw [q, t5] at z; cases z).trans (x1 b o z)
/-- an object of the base is changed: it is left out of the base -/
theorem frames_but {C : Addr} {B h h' : Heap} (sb : Heap.SameBut C h h') (st : (PySem.W.hideAll B [C]).StaysIn B) : ∀ {l : List Env}, C ∉ frs l → h.FunFrames B l → h'.FunFrames (PySem.W.hideAll B [C]) l
  | [], _, _ => trivial
  | env :: l, hC, ⟨hk, ⟨L, o, hf, hn, ho, hd⟩, hr⟩ => by
    have hfr : frs (env :: l) = L :: frs l := by unfold frs; rw [List.filterMap_cons, hf]
    rw [hfr] at hC
    refine ⟨hk, ⟨L, o, hf, ?_, (sb.2 L fun z => hC (z ▸ List.mem_cons_self)).trans ho, hd⟩, frames_but sb st (fun z => hC (List.mem_cons_of_mem _ z)) hr⟩
    cases q : (PySem.W.hideAll B [C]).get? L with
    | none => rfl
    | some o' => have := st L o' q; rw [hn] at this; cases this
theorem fly_but {l : List Env} {C : Addr} {oC : Obj} {cls fl : Value} {h h' : Heap} (x : FlyAt B l e cls fl h) (hC : B.get? C = some oC) (hCl : C ∉ frs l) (sb : Heap.SameBut C h h') : FlyAt (PySem.W.hideAll B [C]) l e cls fl h' := by
  obtain ⟨x1, x2, x3, oe, vs, T, oT, ts, t1, t2, t3, t4, t5, t6, t7, t8, t9⟩ := x
  have st : (PySem.W.hideAll B [C]).StaysIn B := fun b o z => PySem.W.of_hideAll _ z
  have neC : ∀ b o, (PySem.W.hideAll B [C]).get? b = some o → b ≠ C := fun b o z q => by
    subst q
    rw [PySem.W.hideAll_none [b] (by simp)] at z
    cases z
  have hid : ∀ {b : Addr}, B.get? b = none → (PySem.W.hideAll B [C]).get? b = none := fun {b} hb => by
    cases q : (PySem.W.hideAll B [C]).get? b with
    | none => rfl
    | some o => have := st b o q; rw [hb] at this; cases this
  have eC : e ≠ C := fun z => by rw [z, hC] at x2; cases x2
  have TC : T ≠ C := fun z => by rw [z, hC] at t5; cases t5
  exact ⟨fun b o z => (sb.2 b (neC b o z)).trans (x1 b o (st b o z)), hid x2, frames_but sb st hCl x3, oe, vs, T, oT, ts, (sb.2 e eC).trans t1, t2, t3, t4, hid t5, t6, (sb.2 T TC).trans t7, t8, t9⟩
end
section
variable {P : Program} {w : World} {K : PySem.W.Frag} {mg : Str → Option Value} {base : Heap} {N : List Str} {qual : Str} {scope : Scope} {f : Addr} {cd : Value} {A : Around} {outer : List Env} {s : Shared} {H : Hp} {E : XK}
/-- what is wanted of an exception that leaves the block -/
def CErr (X : Cx) (C : Addr) (x : Value) (s'' : Shared) : Prop := ∃ m, s''.heap.Ns C m ∧ ∀ h', Heap.SameBut C s''.heap h' → ∀ cenv : Env, cenv.locals = C → wpAny (model X.prog X.w) X.A (PySem.passOn "comprehension.variables-let-go" x cenv : Sem Value) (fun _ _ => False) X.xe { s'' with heap := h' }
theorem comp_err {E' : XK} (hE : ∀ c d H', E' c d H' → E c d H') {pins : List (Addr × Obj)} {σ : St} {H1 : Hp} {s1 s2 : Shared} {v : Value} {C : Addr} {cenv : Env} {mC : Str → Option Value}
    (I : Inv (cxOf (CXE P w) P w K mg base N qual scope f cd A outer s H E) pins σ H1 s1) (hN : s1.heap.Ns C mC) (hCn : H1 C = none) (hCs : C ∉ frs (cxOf (CXE P w) P w K mg base N qual scope f cd A outer s H E).stack) (hC0 : s.heap.objs.size ≤ C)
    (hcf : cenv.frame = (cxOf (CXE P w) P w K mg base N qual scope f cd A outer s H E).env.frame)
    (hx : CXE P w (cxOf (CXE P w) P w K mg base N qual scope f cd A outer s H E).stack H1 s1 E' v s2) :
    notedBy (model P w) (cxOf (CXE P w) P w K mg base N qual scope f cd A outer s H E).A cenv (CErr (cxOf (CXE P w) P w K mg base N qual scope f cd A outer s H E) C) v s2 := by
  obtain ⟨e, cls, B, H2, rfl, os, bare, un, hok, hfl, hfresh, htr, q⟩ := hx
  have hst : s1.heap.FunFrames base (envOfC qual scope s.heap.objs.size f cd :: outer) := I.stack
  have hfr : (A.deeper (envOfC qual scope s.heap.objs.size f cd)).frames = some (envOfC qual scope s.heap.objs.size f cd :: outer) := I.ok.frames
  have hloc : (envOfC qual scope s.heap.objs.size f cd).frame = some s.heap.objs.size := rfl
  have hcons : frs (envOfC qual scope s.heap.objs.size f cd :: outer) = s.heap.objs.size :: frs outer := by unfold frs; rw [List.filterMap_cons, hloc]
  have base0 : Un (frs outer) [] H H1 s.heap s1.heap := I.base
  have un' : Un (frs (envOfC qual scope s.heap.objs.size f cd :: outer)) [] H1 H2 s1.heap s2.heap := un
  have hfl' : Fly B (envOfC qual scope s.heap.objs.size f cd :: outer) e cls s2.heap := hfl
  have hfresh' : ∀ b o, s1.heap.get? b = some o → b ∉ frs (envOfC qual scope s.heap.objs.size f cd :: outer) → ∃ o', B.get? b = some o' := hfresh
  have hCs' : C ∉ frs (envOfC qual scope s.heap.objs.size f cd :: outer) := hCs
  obtain ⟨oC, es, ep, hC1, hCd, _⟩ := id hN
  have hC2 : s2.heap.get? C = some oC := un'.keep C oC hC1 hCn hCs' (by simp)
  have hH2C : H2 C = none := un'.free C oC hC1 hCn (by simp)
  obtain ⟨oB, hCB⟩ := hfresh' C oC hC1 hCs'
  have hN2 : s2.heap.Ns C mC := by
    obtain ⟨o, es, ep, e1, r⟩ := hN
    rw [hC1] at e1
    cases e1
    exact ⟨oC, es, ep, hC2, r⟩
  show wpAny _ _ (noteFrame (.ref e) cenv) _ _ _
  rw [note_frame (env := envOfC qual scope s.heap.objs.size f cd) hcf]
  refine fly_looksA hfr hloc hfl' fun h3 f3 u3 => ?_
  refine ⟨mC, u3.ns hN2, fun h4 sb cenv' hl => ?_⟩
  have f4 := fly_but f3 hCB hCs' sb
  unfold PySem.passOn
  obtain ⟨oe, vs, T, oT, ts, t1, t2, t3, t4, _⟩ := id f4.tr
  refine wpAny_bind (wpAny_field t1 t3 t4 ?_)
  rw [if_neg (by simp)]
  refine wpAny_bind (fly_flight (s := { s2 with heap := h4 }) cenv'.frame f4 fun h5 f5 u5 => ?_)
  refine wpAny_throw ?_
  show wpAny (model P w) (A.deeper (envOfC qual scope s.heap.objs.size f cd)) (leaving (envOfC qual scope s.heap.objs.size f cd) (.ref e)) (fun _ s'' => CXE P w outer H s E (.ref e) s'') (fun e' s'' => CXE P w outer H s E e' s'') _
  unfold leaving
  refine wpAny_bind (fly_looksA (s := { s2 with heap := h5 }) hfr hloc f5 fun h6 f6 u6 => ?_)
  refine fly_lands (s := { s2 with heap := h6 }) f6 fun h7 f7 u7 => ?_
  have k1 := fly_out f7
  generalize hB' : PySem.W.hideAll B [C] = B' at *
  have toB' : ∀ b o, B.get? b = some o → b ≠ C → B'.get? b = some o := fun b o z n => by rw [← hB']; exact PySem.W.hideAll_get _ z (by simpa using n)
  have ofB' : ∀ b o, B'.get? b = some o → B.get? b = some o := fun b o z => by rw [← hB'] at z; exact PySem.W.of_hideAll _ z
  have k2 : ∀ b o, b ≠ C → s2.heap.get? b = some o → (∀ us, o.data ≠ .fields us) → ∃ sl, h7.get? b = some { o with slots := sl } := fun b o n z hd => by
    obtain ⟨sl3, z3⟩ := u3 b o z hd
    have z4 : h4.get? b = some { o with slots := sl3 } := (sb.2 b n).trans z3
    obtain ⟨sl5, z5⟩ := u5 b _ z4 hd
    obtain ⟨sl6, z6⟩ := u6 b _ z5 hd
    obtain ⟨sl7, z7⟩ := u7 b _ z6 hd
    exact ⟨sl7, z7⟩
  have notLoc : ∀ b o, s.heap.get? b = some o → b ∉ frs outer → b ∉ frs (envOfC qual scope s.heap.objs.size f cd :: outer) := fun b o z n hm => by
    rw [hcons] at hm
    rcases List.mem_cons.mp hm with e | e
    · exact absurd (Heap.lt_size z) (by rw [e]; exact Nat.lt_irrefl _)
    · exact n e
  have oldC : ∀ b o, s.heap.get? b = some o → b ≠ C := fun b o z => Nat.ne_of_lt (Nat.lt_of_lt_of_le (Heap.lt_size z) hC0)
  have inB : ∀ b o, s2.heap.get? b = some o → (∃ o', B'.get? b = some o') → h7.get? b = some o := fun b o z ⟨o', z'⟩ => by
    have := hfl'.st b o' (ofB' b o' z')
    rw [z] at this
    cases this
    exact k1.st b o z'
  have fresh' : ∀ b o, b ≠ C → s1.heap.get? b = some o → b ∉ frs (envOfC qual scope s.heap.objs.size f cd :: outer) → ∃ o', B'.get? b = some o' := fun b o n z hm => by
    obtain ⟨o', z'⟩ := hfresh' b o z hm
    exact ⟨o', toB' b o' z' n⟩
  have trk' : ∀ b, H2 b ≠ none → ∃ o, B'.get? b = some o := fun b n => by
    obtain ⟨o, z⟩ := htr b n
    exact ⟨o, toB' b o z fun q => n (by rw [q]; exact hH2C)⟩
  refine ⟨e, cls, B', H2, rfl, os.trans I.os, bare, ?_, ?_, k1, ?_, trk', hE _ _ _ q⟩
  · refine ⟨fun b o z n hb hx' => ?_, fun b o z n hb hx' => ?_, fun b o z n hx' => ?_, fun b o z hx' => ?_, fun b xs z => un'.tups b xs (base0.tups b xs z), fun b o u z => un'.frzs b o u (base0.frzs b o u z), fun b ps z => ?_⟩
    · have z1 := base0.keep b o z n hb hx'
      have n1 := base0.free b o z n hx'
      have nb := notLoc b o z hb
      exact inB b o (un'.keep b o z1 n1 nb hx') (fresh' b o (oldC b o z) z1 nb)
    · obtain ⟨sl, z1⟩ := base0.slot b o z n hb hx'
      have n1 := base0.free b o z n hx'
      have hm : b ∈ frs (envOfC qual scope s.heap.objs.size f cd :: outer) := by rw [hcons]; exact List.mem_cons_of_mem _ hb
      obtain ⟨sl2, z2⟩ := un'.slot b _ z1 n1 hm hx'
      obtain ⟨_, o', ho', hd⟩ := hst.mem hm
      rw [z1] at ho'
      cases ho'
      obtain ⟨sl3, z3⟩ := k2 b _ (oldC b o z) z2 hd
      exact ⟨sl3, z3⟩
    · obtain ⟨sl, z1⟩ := base0.any z n hx'
      exact un'.free b _ z1 (base0.free b o z n hx') hx'
    · obtain ⟨o1, z1⟩ := base0.there b o z hx'
      obtain ⟨o2, z2⟩ := un'.there b o1 z1 hx'
      by_cases hm : b ∈ frs (envOfC qual scope s.heap.objs.size f cd :: outer)
      · obtain ⟨_, o', ho', hd⟩ := hfl'.fr.mem hm
        rw [z2] at ho'
        cases ho'
        obtain ⟨sl3, z3⟩ := k2 b _ (oldC b o z) z2 hd
        exact ⟨_, z3⟩
      · exact ⟨o2, inB b o2 z2 (fresh' b o1 (oldC b o z) z1 hm)⟩
    · obtain ⟨m1, z1⟩ := base0.tbls b ps z
      obtain ⟨m2, z2⟩ := un'.tbls b _ z1
      exact ⟨m1 ++ m2, by rw [z2, Array.append_assoc]⟩
  · exact HOk.tracked hok fun b u n z => inB b u z (trk' b n)
  · intro b o z n
    obtain ⟨o1, z1⟩ := base0.there b o z (by simp)
    exact fresh' b o1 (oldC b o z) z1 (notLoc b o z n)
end
def xErr (X : Cx) (scope : Scope) : Addr → Value → Shared → Prop := fun C v s' => notedBy (model X.prog X.w) X.A (compEnvC scope (celC X scope C) C X.env) (CErr X C) v s'
/-- the state in which the block was begun -/
structure XIn (X : Cx) (C : Addr) (s₂ : Shared) (H : Hp) (fp : List Addr) : Prop where
  ex : ∃ pins σ, Inv X pins σ H s₂ ∧ ∀ b ∈ fp, FpOk X pins H b ∧ b < s₂.heap.objs.size
  le : s₂.heap.objs.size ≤ C
section
variable {P : Program} {w : World} {K : PySem.W.Frag} {mg : Str → Option Value} {base : Heap} {N : List Str} {qual : Str} {scope : Scope} {f : Addr} {cd : Value} {A : Around} {outer : List Env} {s : Shared} {H : Hp} {E : XK} {scope' : Scope} {N' : List Str} {C : Addr} {s₂ : Shared} {H₂ : Hp} {fp : List Addr}
theorem pass_block {E' : XK} (hx : XIn (cxOf (CXE P w) P w K mg base N qual scope f cd A outer s H E) C s₂ H₂ fp) (hE : ∀ c d H', E' c d H' → E c d H') :
    Passes (CXE P w) (cxD (cxOf (CXE P w) P w K mg base N qual scope f cd A outer s H E) scope' C N' s₂ H₂ fp (xErr (cxOf (CXE P w) P w K mg base N qual scope f cd A outer s H E) scope' C)) E' := by
  intro pins σ H1 s1 v s2 I1 hc
  obtain ⟨⟨pins0, σ0, I, hfp⟩, hC⟩ := hx
  have IX : Inv (cxOf (CXE P w) P w K mg base N qual scope f cd A outer s H E) pins0 σ0 H1 s1 := I.call' I1.os I1.base I1.hok I1.bare fun b hb => by
    obtain ⟨q1, q2, q3, q4, q5, q6⟩ := (hfp b hb).1
    exact ⟨q4, q2, q5, q6⟩
  obtain ⟨m, hm, _⟩ := I1.loc
  refine comp_err hE IX hm I1.free (fun z => ?_) (Nat.le_trans I.sz hC) rfl hc
  rcases List.mem_cons.mp (I.stkSub C z) with e | e
  · have := I.lt
    rw [← e] at this
    exact absurd (Nat.lt_of_lt_of_le this hC) (Nat.lt_irrefl _)
  · exact I.nofs hC e
theorem pe_callEB {x : Str} {k : Nat} {sp : Sp} {e0 : Expr} {es : List Expr} {t : TA} {p pos : Pos} {E' : XK} (Ca : CalleeE P w K mg base x k sp) (hx : XIn (cxOf (CXE P w) P w K mg base N qual scope f cd A outer s H E) C s₂ H₂ fp) (hr : Room k (A.deeper (envOfC qual scope s.heap.objs.size f cd)))
    (hg : Gl (cxD (cxOf (CXE P w) P w K mg base N qual scope f cd A outer s H E) scope' C N' s₂ H₂ fp (xErr (cxOf (CXE P w) P w K mg base N qual scope f cd A outer s H E) scope' C)) x)
    (ha : PA (cxD (cxOf (CXE P w) P w K mg base N qual scope f cd A outer s H E) scope' C N' s₂ H₂ fp (xErr (cxOf (CXE P w) P w K mg base N qual scope f cd A outer s H E) scope' C)) (e0 :: es) t) (hE : ∀ c d H', E' c d H' → E c d H' := by exact fun _ _ _ z => z)
    (he : starEach (e0 :: es) (cxD (cxOf (CXE P w) P w K mg base N qual scope f cd A outer s H E) scope' C N' s₂ H₂ fp (xErr (cxOf (CXE P w) P w K mg base N qual scope f cd A outer s H E) scope' C)).env = (false, eval e0 (cxD (cxOf (CXE P w) P w K mg base N qual scope f cd A outer s H E) scope' C N' s₂ H₂ fp (xErr (cxOf (CXE P w) P w K mg base N qual scope f cd A outer s H E) scope' C)).env) :: starEach es (cxD (cxOf (CXE P w) P w K mg base N qual scope f cd A outer s H E) scope' C N' s₂ H₂ fp (xErr (cxOf (CXE P w) P w K mg base N qual scope f cd A outer s H E) scope' C)).env := by rfl)
    (hpl : (backTo pos (starEach es (cxD (cxOf (CXE P w) P w K mg base N qual scope f cd A outer s H E) scope' C N' s₂ H₂ fp (xErr (cxOf (CXE P w) P w K mg base N qual scope f cd A outer s H E) scope' C)).env)).any (·.1) = false := by rfl) (hdb : (x == ("__debug__" : Str)) = false := by decide) :
    PE (cxD (cxOf (CXE P w) P w K mg base N qual scope f cd A outer s H E) scope' C N' s₂ H₂ fp (xErr (cxOf (CXE P w) P w K mg base N qual scope f cd A outer s H E) scope' C)) (.Call (.Name x p) (e0 :: es) [] pos) (tCall sp [] E' t) := by
  obtain ⟨f', fd, ps, F, hm, hk, hb⟩ := Ca
  exact pe_call F hr hg hm hk hb .nil (pass_block hx hE) ha (hdb := hdb) (he := he) (hpl := hpl)
end
section
variable {P : Program} {w : World} {K : PySem.W.Frag} {mg : Str → Option Value} {base : Heap} {N : List Str} {qual : Str} {scope : Scope} {f : Addr} {cd : Value} {A : Around} {outer : List Env} {s : Shared} {H : Hp} {E : XK} {scope' : Scope} {N' : List Str} {C : Addr} {s₂ : Shared} {H₂ : Hp} {fp : List Addr} {Y : Cx}
theorem pe_methEB {Cl : Addr} {m : Str} {k : Nat} {sp : Sp} {o e0 : Expr} {es : List Expr} {ta : TE} {t : TA} {apos pos : Pos} {pl : Sem Bool} {E' : XK} (Ca : CalleeM (CXE P w) P w K mg base Cl m k sp) (c : Cls K Cl) (hY : Y = cxD (cxOf (CXE P w) P w K mg base N qual scope f cd A outer s H E) scope' C N' s₂ H₂ fp (xErr (cxOf (CXE P w) P w K mg base N qual scope f cd A outer s H E) scope' C)) (ho : PE Y o ta) (hx : XIn (cxOf (CXE P w) P w K mg base N qual scope f cd A outer s H E) C s₂ H₂ fp) (hr : Room k (A.deeper (envOfC qual scope s.heap.objs.size f cd)))
    (ha : PA Y (e0 :: es) t) (hE : ∀ c d H', E' c d H' → E c d H' := by exact fun _ _ _ z => z)
    (hst : starEach (e0 :: es) Y.env = (false, eval e0 Y.env) :: starEach es Y.env := by rfl) (hpl : (backTo pos (starEach es Y.env)).any (·.1) = false := by rfl)
    (ht : eval (.Call (.Attribute o m apos) (e0 :: es) [] pos) Y.env = (do
      let ov ← eval o Y.env
      standAt apos.atName
      let (f, first) ← holding [ov] (getMethod ov m pl)
      callWith pos f first (backTo pos (starEach (e0 :: es) Y.env)) (backToKw pos (keywordEach [] Y.env))) := by rfl) :
    PE Y (.Call (.Attribute o m apos) (e0 :: es) [] pos) (tMeth Cl m sp [] E' ta t) := by
  subst hY
  obtain ⟨f', fd, ps, F, hm, hb⟩ := Ca
  exact pe_meth (X := cxD (cxOf (CXE P w) P w K mg base N qual scope f cd A outer s H E) scope' C N' s₂ H₂ fp (xErr (cxOf (CXE P w) P w K mg base N qual scope f cd A outer s H E) scope' C)) ho c hm F hr hb .nil (pass_block hx hE) ha (hst := hst) (hpl := hpl) (ht := ht)
end
/-! ### the comprehension itself -/
section
variable {X : Cx} {scope : Scope} {N : List Str} {fr : List (Option Nat)} {tg iter elt : Expr} {ifs : List Expr} {pos : Pos} {g : TG} {ti : TT} {te : TE}
theorem one_loopE {pins : List (Addr × Obj)} {σ : St} {H : Hp} {s₂ : Shared} {it D C : Addr} {fp : List Addr} {tn : Nat → Heap → Prop} {J : It} {h₁ : Heap} {Q : VK} {R : Result → Shared → Prop} (hc : X.calm = true) (B : Beg X scope N fr (xErr X scope) pins σ H s₂ fp D C h₁) (T : Turn X.prog X.w X.K tg J fp it tn) (st : tn 0 h₁)
    (hg : PG (cxD X scope C N s₂ H fp (xErr X scope C)) tg g) (hi : PIfs (cxD X scope C N s₂ H fp (xErr X scope C)) ifs ti) (he : PE (cxD X scope C N s₂ H fp (xErr X scope C)) elt te) (gw : GW fr g) (q : CompI J g ti te (stC fr σ) H Q)
    (hR : ∀ H' ys s', Inv X pins σ (upd H' D (.lst ys)) s' → Aside X pins (upd H' D (.lst ys)) C → (∃ m, s'.heap.Ns C m) → Q (.ref D) (upd H' D (.lst ys)) → R (.ok .next) s') (hRE : ∀ x s', CErr X C x s' → R (.error x) s') :
    codeAny (model X.prog X.w) X.A (.compLoop (.ListComp elt [⟨tg, iter, ifs, 0⟩] scope pos) 0 (.ref it) (.ref D) (cxD X scope C N s₂ H fp (xErr X scope C)).env) R { s₂ with heap := h₁ } := by
  refine last_loop (X := cxD X scope C N s₂ H fp (xErr X scope C)) (fun acc => compTurn_list ..) hc B.inv stC_some gw T st B.fpo B.acc .nil B.free B.dok (fun p hp => absurd (show p ∈ ([] : List (Addr × Obj)) from hp) (by simp)) B.fpD hg hi he q.last ?_ fun x s' z => wpAny_mono (show notedBy (model X.prog X.w) X.A (compEnvC scope (celC X scope C) C X.env) (CErr X C) x s' from z) (fun _ _ q => hRE _ _ q) fun _ _ q => hRE _ _ q
  intro ys us k H3 s4 I4 hD rv hn hl z
  obtain ⟨a, b, c⟩ := B.back I4 hD rv hn hl
  exact hR H3 ys s4 a b c (z D hn)
theorem pe_compE {wi : TI} (c : CompOkD X scope N fr) (hc : X.calm = true) (hi : PI X tg iter wi) (hg : ∀ C s₂ H fp, PG (cxD X scope C N s₂ H fp (xErr X scope C)) tg g) (hf : ∀ C s₂ H fp, XIn X C s₂ H fp → PIfs (cxD X scope C N s₂ H fp (xErr X scope C)) ifs ti) (he : ∀ C s₂ H fp, XIn X C s₂ H fp → PE (cxD X scope C N s₂ H fp (xErr X scope C)) elt te) (gw : GW fr g)
    (hs : ∀ x, foldedSetIterable iter X.env x = pure x := by intro _; rfl) : PE X (.ListComp elt [⟨tg, iter, ifs, 0⟩] scope pos) (tComp fr wi g ti te) := by
  intro pins s σ H Q I h
  rw [eval_ListComp]
  refine wpAny_comprehension_free (use := none) rfl hs (closure_eq (c.cells I.ok)) c.kind c.names (thn (hi pins s σ H _ I h) fun v s1 h1 => thn h1 fun itv s2 h2 => ?_)
  obtain ⟨it, fp, tn, J, H2, e, I2, T, st2, f2, q⟩ := h2
  subst e
  refine comp_coreG (xb := xErr X scope) (RR := fun acc C => compPost (model X.prog X.w) X.A X.xe none (EP X pins σ Q) acc C) c I2 T st2 f2 fun D C h₁ B st₁ => ?_
  have hX : XIn X C s2 H2 fp := ⟨⟨pins, σ, I2, B.fpk⟩, by rw [B.ds]; exact Nat.le_of_lt B.dc⟩
  refine one_loopE (Q := Q) hc B T st₁ (hg C _ _ _) (hf C _ _ _ hX) (he C _ _ _ hX) gw q (fun H' ys s' IT as hm q => ?_) fun x s' z => z
  obtain ⟨m, hm⟩ := hm
  exact ⟨m, hm, fun h' sb => ⟨.ref D, _, IT.turned (t' := s'.toks) (fun b o hb e => (sb.2 b hb).trans e) as.fr as.ne (.inr as.ab) as.cl as.pn, rfl, q⟩⟩
end
end L2

set_option Elab.async false
set_option linter.all false
set_option maxRecDepth 100000
/-! xs[::-1], xs.index(i), xs.insert(i, x) -/
namespace L2
open PySem PySem.Spec PyProof.Rows
section
variable {X : Cx} {e k : Expr} {te : TE} {tk : TO} {pos p2 : Pos}
def rRev (K : PySem.W.Frag) : V → Hp → VK → Prop := fun x H Q => ∃ a xs, x = .ref a ∧ SqL K H a xs ∧ ∀ p, H p = none → Q (.ref p) (upd H p (.lst xs.reverse))
def tRev (K : PySem.W.Frag) (te : TE) (tk : TO) : TE := fun σ H Q => te σ H fun x H1 => tk σ H1 fun j H2 => j = some (-1) ∧ rRev K x H2 Q
end
section
variable {X : Cx}
def rIndex : V → List V → Hp → VK → Prop := fun x vs H Q => ∃ l ns k, x = .ref l ∧ vs = [.int k] ∧ H l = some (.lst (iL ns)) ∧ k ∈ ns ∧ Q (.int (ns.idxOf k : Nat)) H
def rInsert : V → List V → Hp → VK → Prop := fun x vs H Q => ∃ l xs y, x = .ref l ∧ vs = [.int 0, y] ∧ H l = some (.lst xs) ∧ xs.length < sizeLine ∧ Q .non (upd H l (.lst (y :: xs)))
end
section
variable {K : PySem.W.Frag} {H : Hp} {Q : VK}
end
end L2

set_option Elab.async false
set_option linter.all false
set_option maxRecDepth 100000
set_option maxHeartbeats 4000000
namespace My
open PySem L2 M
local macro_rules | `(tactic| walk_at "s1") => `(tactic| first
  | with_reducible refine i_var rfl ?_
  | with_reducible refine i_I0 ?_
  | with_reducible refine iteF ?_
  | with_reducible refine iteNT ?_
  | with_reducible refine iteNF ?_
  | with_reducible refine iteT ?_
  | with_reducible refine i_truB ?_
  | with_reducible refine i_addI ?_
  | with_reducible refine i_U ?_
  | with_reducible refine i_isB ?_
  | with_reducible refine i_isNotB ?_
  | with_reducible refine i_eqI ?_
  | with_reducible refine i_neI ?_
  | with_reducible refine i_intB ?_
  | with_reducible refine i_abs ?_
  | with_reducible refine i_isiII ?_
  | with_reducible refine i_isiIB ?_
  | with_reducible refine i_isiIL ?_
  | with_reducible refine i_isiID ?_
  | with_reducible refine i_isiIT ?_
  | with_reducible refine i_isiBB ?_
  | with_reducible refine i_div (by omega) (by omega) ?_
  | with_reducible refine i_mod (by omega) ?_
  | with_reducible refine And.intro (szl (Nat.le_of_ble_eq_true rfl)) ?_
  | with_reducible refine ⟨_, rfl, ?_⟩)
local macro_rules | `(tactic| walk_at "un") => `(tactic| try dsimp only [tSeq, tAsg, gName, tOp, tUn, tTest, tB, tAnd, tOr, tNot, tAndV, tOrV, tNotV, tIf, tIfS, tRet, tRetN, tDrop, tNext, tCons, tNil, tCB, tCall, tMenu, tComp, tComp2, msk, List.zipWith, tMakeS, iZip2, iEnum, tNoIf, tTru, tJoin, cxOf_K, tLst, tTup, tSl, tPart, tNoPart, tBM, tBM0, tChain, tC, tFor_eq, gTup, gCons, gNil, gSub, iList, iRng1, iRng2, iRng3, iTup, tWhile, tRev, tFld, sFld, tMeth, tMethS, tMake, tRaise, tCallS, tTry, tAug, tPar, tNever, ipI, List.append_nil])
local macro_rules | `(tactic| walk_at "st") => `(tactic| (walk_at "un"; repeat walk_at "s1"))

def top (i : Nat) : Stmt := PySem.Challenge.pw_lugtrain_k22_boxes_refused.main.body.getD i (.Pass ⟨0, 0, 0, 0⟩)
abbrev s_refuse_no_top : Stmt := top 16
theorem sc_refuse_no_top : FnScope ["top"] ["top"] (defScope s_refuse_no_top) := ⟨rfl, rfl, rfl, by decide +kernel, rfl, by decide +kernel, by decide +kernel⟩
theorem bd_refuse_no_top (kV doc pm : Value) (an : Option Addr) (cdv ct : Value) (us : List Value) (hl : us.length = (["top"] : List Str).length) : bindArgs (PySem.W.fnOf "refuse_no_top" "refuse_no_top" (defArgs s_refuse_no_top) (defBody s_refuse_no_top) (defScope s_refuse_no_top) .none kV doc pm an cdv ct) ⟨us, []⟩ = pure ((["top"] : List Str).zip us) := match us, hl with | [_], _ => rfl
abbrev s_refuse_no_place : Stmt := top 17
theorem sc_refuse_no_place : FnScope ["top", "place"] ["top", "place"] (defScope s_refuse_no_place) := ⟨rfl, rfl, rfl, by decide +kernel, rfl, by decide +kernel, by decide +kernel⟩
theorem bd_refuse_no_place (kV doc pm : Value) (an : Option Addr) (cdv ct : Value) (us : List Value) (hl : us.length = (["top", "place"] : List Str).length) : bindArgs (PySem.W.fnOf "refuse_no_place" "refuse_no_place" (defArgs s_refuse_no_place) (defBody s_refuse_no_place) (defScope s_refuse_no_place) .none kV doc pm an cdv ct) ⟨us, []⟩ = pure ((["top", "place"] : List Str).zip us) := match us, hl with | [_, _], _ => rfl
abbrev s_Switch___init__ : Stmt := inClass (top 18) 0
theorem sc_Switch___init__ : FnScope ["self", "low", "high"] ["self", "low", "high"] (defScope s_Switch___init__) := ⟨rfl, rfl, rfl, by decide +kernel, rfl, by decide +kernel, by decide +kernel⟩
theorem bd_Switch___init__ (kV doc pm : Value) (an : Option Addr) (cdv ct : Value) (us : List Value) (hl : us.length = (["self", "low", "high"] : List Str).length) : bindArgs (PySem.W.fnOf "__init__" "Switch.__init__" (defArgs s_Switch___init__) (defBody s_Switch___init__) (defScope s_Switch___init__) .none kV doc pm an cdv ct) ⟨us, []⟩ = pure ((["self", "low", "high"] : List Str).zip us) := match us, hl with | [_, _, _], _ => rfl
abbrev s_Switch_turn : Stmt := inClass (top 18) 1
theorem sc_Switch_turn : FnScope ["self", "place"] ["self", "place"] (defScope s_Switch_turn) := ⟨rfl, rfl, rfl, by decide +kernel, rfl, by decide +kernel, by decide +kernel⟩
theorem bd_Switch_turn (kV doc pm : Value) (an : Option Addr) (cdv ct : Value) (us : List Value) (hl : us.length = (["self", "place"] : List Str).length) : bindArgs (PySem.W.fnOf "turn" "Switch.turn" (defArgs s_Switch_turn) (defBody s_Switch_turn) (defScope s_Switch_turn) .none kV doc pm an cdv ct) ⟨us, []⟩ = pure ((["self", "place"] : List Str).zip us) := match us, hl with | [_, _], _ => rfl
abbrev s_Switch_on : Stmt := inClass (top 18) 2
theorem sc_Switch_on : FnScope ["self"] ["self"] (defScope s_Switch_on) := ⟨rfl, rfl, rfl, by decide +kernel, rfl, by decide +kernel, by decide +kernel⟩
theorem bd_Switch_on (kV doc pm : Value) (an : Option Addr) (cdv ct : Value) (us : List Value) (hl : us.length = (["self"] : List Str).length) : bindArgs (PySem.W.fnOf "on" "Switch.on" (defArgs s_Switch_on) (defBody s_Switch_on) (defScope s_Switch_on) .none kV doc pm an cdv ct) ⟨us, []⟩ = pure ((["self"] : List Str).zip us) := match us, hl with | [_], _ => rfl
abbrev s_switch_within : Stmt := top 19
theorem sc_switch_within : FnScope ["top", "low", "high"] ["top", "low", "high"] (defScope s_switch_within) := ⟨rfl, rfl, rfl, by decide +kernel, rfl, by decide +kernel, by decide +kernel⟩
theorem bd_switch_within (kV doc pm : Value) (an : Option Addr) (cdv ct : Value) (us : List Value) (hl : us.length = (["top", "low", "high"] : List Str).length) : bindArgs (PySem.W.fnOf "switch_within" "switch_within" (defArgs s_switch_within) (defBody s_switch_within) (defScope s_switch_within) .none kV doc pm an cdv ct) ⟨us, []⟩ = pure ((["top", "low", "high"] : List Str).zip us) := match us, hl with | [_, _, _], _ => rfl
abbrev s_Box___init__ : Stmt := inClass (top 20) 0
theorem sc_Box___init__ : FnScope ["self", "top", "switches"] ["self", "top", "switches"] (defScope s_Box___init__) := ⟨rfl, rfl, rfl, by decide +kernel, rfl, by decide +kernel, by decide +kernel⟩
theorem bd_Box___init__ (kV doc pm : Value) (an : Option Addr) (cdv ct : Value) (us : List Value) (hl : us.length = (["self", "top", "switches"] : List Str).length) : bindArgs (PySem.W.fnOf "__init__" "Box.__init__" (defArgs s_Box___init__) (defBody s_Box___init__) (defScope s_Box___init__) .none kV doc pm an cdv ct) ⟨us, []⟩ = pure ((["self", "top", "switches"] : List Str).zip us) := match us, hl with | [_, _, _], _ => rfl
abbrev s_Box_turn : Stmt := inClass (top 20) 1
theorem sc_Box_turn : FnScope ["self", "place", "switch"] ["self", "place"] (defScope s_Box_turn) := ⟨rfl, rfl, rfl, by decide +kernel, rfl, by decide +kernel, by decide +kernel⟩
theorem bd_Box_turn (kV doc pm : Value) (an : Option Addr) (cdv ct : Value) (us : List Value) (hl : us.length = (["self", "place"] : List Str).length) : bindArgs (PySem.W.fnOf "turn" "Box.turn" (defArgs s_Box_turn) (defBody s_Box_turn) (defScope s_Box_turn) .none kV doc pm an cdv ct) ⟨us, []⟩ = pure ((["self", "place"] : List Str).zip us) := match us, hl with | [_, _], _ => rfl
abbrev s_Box_answer : Stmt := inClass (top 20) 2
theorem sc_Box_answer : FnScope ["self"] ["self"] (defScope s_Box_answer) := ⟨rfl, rfl, rfl, by decide +kernel, rfl, by decide +kernel, by decide +kernel⟩
theorem bd_Box_answer (kV doc pm : Value) (an : Option Addr) (cdv ct : Value) (us : List Value) (hl : us.length = (["self"] : List Str).length) : bindArgs (PySem.W.fnOf "answer" "Box.answer" (defArgs s_Box_answer) (defBody s_Box_answer) (defScope s_Box_answer) .none kV doc pm an cdv ct) ⟨us, []⟩ = pure ((["self"] : List Str).zip us) := match us, hl with | [_], _ => rfl
abbrev s_Box_lit : Stmt := inClass (top 20) 3
theorem sc_Box_lit : FnScope ["self"] ["self"] (defScope s_Box_lit) := ⟨rfl, rfl, rfl, by decide +kernel, rfl, by decide +kernel, by decide +kernel⟩
theorem bd_Box_lit (kV doc pm : Value) (an : Option Addr) (cdv ct : Value) (us : List Value) (hl : us.length = (["self"] : List Str).length) : bindArgs (PySem.W.fnOf "lit" "Box.lit" (defArgs s_Box_lit) (defBody s_Box_lit) (defScope s_Box_lit) .none kV doc pm an cdv ct) ⟨us, []⟩ = pure ((["self"] : List Str).zip us) := match us, hl with | [_], _ => rfl
abbrev s_Box_anew : Stmt := inClass (top 20) 5
theorem sc_Box_anew : FnScope ["self"] ["self"] (defScope s_Box_anew) := ⟨rfl, rfl, rfl, by decide +kernel, rfl, by decide +kernel, by decide +kernel⟩
theorem bd_Box_anew (kV doc pm : Value) (an : Option Addr) (cdv ct : Value) (us : List Value) (hl : us.length = (["self"] : List Str).length) : bindArgs (PySem.W.fnOf "anew" "Box.anew" (defArgs s_Box_anew) (defBody s_Box_anew) (defScope s_Box_anew) .none kV doc pm an cdv ct) ⟨us, []⟩ = pure ((["self"] : List Str).zip us) := match us, hl with | [_], _ => rfl
abbrev s_first_return : Stmt := top 22
theorem sc_first_return : FnScope ["box", "high", "low"] ["box", "high", "low"] (defScope s_first_return) := ⟨rfl, rfl, rfl, by decide +kernel, rfl, by decide +kernel, by decide +kernel⟩
theorem bd_first_return (kV doc pm : Value) (an : Option Addr) (cdv ct : Value) (us : List Value) (hl : us.length = (["box", "high", "low"] : List Str).length) : bindArgs (PySem.W.fnOf "first_return" "first_return" (defArgs s_first_return) (defBody s_first_return) (defScope s_first_return) .none kV doc pm an cdv ct) ⟨us, []⟩ = pure ((["box", "high", "low"] : List Str).zip us) := match us, hl with | [_, _, _], _ => rfl
abbrev s_returns_of : Stmt := top 23
theorem sc_returns_of : FnScope ["top", "switches", "box"] ["top", "switches"] (defScope s_returns_of) := ⟨rfl, rfl, rfl, by decide +kernel, rfl, by decide +kernel, by decide +kernel⟩
theorem bd_returns_of (kV doc pm : Value) (an : Option Addr) (cdv ct : Value) (us : List Value) (hl : us.length = (["top", "switches"] : List Str).length) : bindArgs (PySem.W.fnOf "returns_of" "returns_of" (defArgs s_returns_of) (defBody s_returns_of) (defScope s_returns_of) .none kV doc pm an cdv ct) ⟨us, []⟩ = pure ((["top", "switches"] : List Str).zip us) := match us, hl with | [_, _], _ => rfl
abbrev s_answers_of : Stmt := top 24
theorem sc_answers_of : FnScope ["top", "switches", "row", "box"] ["top", "switches", "row"] (defScope s_answers_of) := ⟨rfl, rfl, rfl, by decide +kernel, rfl, by decide +kernel, by decide +kernel⟩
theorem bd_answers_of (kV doc pm : Value) (an : Option Addr) (cdv ct : Value) (us : List Value) (hl : us.length = (["top", "switches", "row"] : List Str).length) : bindArgs (PySem.W.fnOf "answers_of" "answers_of" (defArgs s_answers_of) (defBody s_answers_of) (defScope s_answers_of) .none kV doc pm an cdv ct) ⟨us, []⟩ = pure ((["top", "switches", "row"] : List Str).zip us) := match us, hl with | [_, _, _], _ => rfl
abbrev s_teller_of : Stmt := top 25
theorem sc_teller_of : FnScope ["top", "one", "other", "ones", "others", "high", "low"] ["top", "one", "other"] (defScope s_teller_of) := ⟨rfl, rfl, rfl, by decide +kernel, rfl, by decide +kernel, by decide +kernel⟩
theorem bd_teller_of (kV doc pm : Value) (an : Option Addr) (cdv ct : Value) (us : List Value) (hl : us.length = (["top", "one", "other"] : List Str).length) : bindArgs (PySem.W.fnOf "teller_of" "teller_of" (defArgs s_teller_of) (defBody s_teller_of) (defScope s_teller_of) .none kV doc pm an cdv ct) ⟨us, []⟩ = pure ((["top", "one", "other"] : List Str).zip us) := match us, hl with | [_, _, _], _ => rfl
abbrev s_law_draws : Stmt := top 28
theorem sc_law_draws : FnScope ["cell", "many", "base", "found", "rest", "stirred", "k"] ["cell", "many", "base"] (defScope s_law_draws) := ⟨rfl, rfl, rfl, by decide +kernel, rfl, by decide +kernel, by decide +kernel⟩
theorem bd_law_draws (kV doc pm : Value) (an : Option Addr) (cdv ct : Value) (us : List Value) (hl : us.length = (["cell", "many", "base"] : List Str).length) : bindArgs (PySem.W.fnOf "_law_draws" "_law_draws" (defArgs s_law_draws) (defBody s_law_draws) (defScope s_law_draws) .none kV doc pm an cdv ct) ⟨us, []⟩ = pure ((["cell", "many", "base"] : List Str).zip us) := match us, hl with | [_, _, _], _ => rfl
abbrev s_law_a_kin : Stmt := top 29
theorem sc_law_a_kin : FnScope ["e", "kin"] ["e"] (defScope s_law_a_kin) := ⟨rfl, rfl, rfl, by decide +kernel, rfl, by decide +kernel, by decide +kernel⟩
theorem bd_law_a_kin (kV doc pm : Value) (an : Option Addr) (cdv ct : Value) (us : List Value) (hl : us.length = (["e"] : List Str).length) : bindArgs (PySem.W.fnOf "_law_a_kin" "_law_a_kin" (defArgs s_law_a_kin) (defBody s_law_a_kin) (defScope s_law_a_kin) .none kV doc pm an cdv ct) ⟨us, []⟩ = pure ((["e"] : List Str).zip us) := match us, hl with | [_], _ => rfl
abbrev s_law_due_kin : Stmt := top 30
theorem sc_law_due_kin : FnScope ["name", "names"] ["name"] (defScope s_law_due_kin) := ⟨rfl, rfl, rfl, by decide +kernel, rfl, by decide +kernel, by decide +kernel⟩
theorem bd_law_due_kin (kV doc pm : Value) (an : Option Addr) (cdv ct : Value) (us : List Value) (hl : us.length = (["name"] : List Str).length) : bindArgs (PySem.W.fnOf "_law_due_kin" "_law_due_kin" (defArgs s_law_due_kin) (defBody s_law_due_kin) (defScope s_law_due_kin) .none kV doc pm an cdv ct) ⟨us, []⟩ = pure ((["name"] : List Str).zip us) := match us, hl with | [_], _ => rfl
abbrev s_law_case : Stmt := top 31
theorem sc_law_case : FnScope ["cell", "picks", "top", "wide", "switches", "pick", "low", "at", "high", "weight", "odd", "row"] ["cell"] (defScope s_law_case) := ⟨rfl, rfl, rfl, by decide +kernel, rfl, by decide +kernel, by decide +kernel⟩
theorem bd_law_case (kV doc pm : Value) (an : Option Addr) (cdv ct : Value) (us : List Value) (hl : us.length = (["cell"] : List Str).length) : bindArgs (PySem.W.fnOf "_law_case" "_law_case" (defArgs s_law_case) (defBody s_law_case) (defScope s_law_case) .none kV doc pm an cdv ct) ⟨us, []⟩ = pure ((["cell"] : List Str).zip us) := match us, hl with | [_], _ => rfl
abbrev s_law_a_due : Stmt := top 32
theorem sc_law_a_due : FnScope ["top", "switches", "row", "way", "low", "high", "weight", "place"] ["top", "switches", "row", "way"] (defScope s_law_a_due) := ⟨rfl, rfl, rfl, by decide +kernel, rfl, by decide +kernel, by decide +kernel⟩
theorem bd_law_a_due (kV doc pm : Value) (an : Option Addr) (cdv ct : Value) (us : List Value) (hl : us.length = (["top", "switches", "row", "way"] : List Str).length) : bindArgs (PySem.W.fnOf "_law_a_due" "_law_a_due" (defArgs s_law_a_due) (defBody s_law_a_due) (defScope s_law_a_due) .none kV doc pm an cdv ct) ⟨us, []⟩ = pure ((["top", "switches", "row", "way"] : List Str).zip us) := match us, hl with | [_, _, _, _], _ => rfl
abbrev s_law_ask : Stmt := top 33
theorem sc_law_ask : FnScope ["top", "switches", "row", "way"] ["top", "switches", "row", "way"] (defScope s_law_ask) := ⟨rfl, rfl, rfl, by decide +kernel, rfl, by decide +kernel, by decide +kernel⟩
theorem bd_law_ask (kV doc pm : Value) (an : Option Addr) (cdv ct : Value) (us : List Value) (hl : us.length = (["top", "switches", "row", "way"] : List Str).length) : bindArgs (PySem.W.fnOf "_law_ask" "_law_ask" (defArgs s_law_ask) (defBody s_law_ask) (defScope s_law_ask) .none kV doc pm an cdv ct) ⟨us, []⟩ = pure ((["top", "switches", "row", "way"] : List Str).zip us) := match us, hl with | [_, _, _, _], _ => rfl
abbrev s_law_asked : Stmt := top 34
theorem sc_law_asked : FnScope ["top", "switches", "row", "way", "kin", "e"] ["top", "switches", "row", "way"] (defScope s_law_asked) := ⟨rfl, rfl, rfl, by decide +kernel, rfl, by decide +kernel, by decide +kernel⟩
theorem bd_law_asked (kV doc pm : Value) (an : Option Addr) (cdv ct : Value) (us : List Value) (hl : us.length = (["top", "switches", "row", "way"] : List Str).length) : bindArgs (PySem.W.fnOf "_law_asked" "_law_asked" (defArgs s_law_asked) (defBody s_law_asked) (defScope s_law_asked) .none kV doc pm an cdv ct) ⟨us, []⟩ = pure ((["top", "switches", "row", "way"] : List Str).zip us) := match us, hl with | [_, _, _, _], _ => rfl
abbrev s_law : Stmt := top 35
theorem sc_law : FnScope ["script", "cells", "cell", "top", "switches", "row", "picks", "way", "due", "handed", "kin", "low", "high"] ["script"] (defScope s_law) := ⟨rfl, rfl, rfl, by decide +kernel, rfl, by decide +kernel, by decide +kernel⟩
structure Txt (mg : Str → Option Value) : Prop where
  z_ValueError : mg "ValueError" = none
  z_enumerate : mg "enumerate" = none
  z_int : mg "int" = none
  z_isinstance : mg "isinstance" = none
  z_len : mg "len" = none
  z_list : mg "list" = none
  z_max : mg "max" = none
  z_min : mg "min" = none
  z_range : mg "range" = none
  z_sum : mg "sum" = none
  g_MOST_TOP : ∃ t, mg "MOST_TOP" = some (.int 16 t)
structure Cls (K : PySem.W.Frag) (mg : Str → Option Value) where
  c_TrainError : Addr
  c_NoTrain : Addr
  c_NoStand : Addr
  c_NoPaper : Addr
  c_NoBox : Addr
  c_NoSwitch : Addr
  c_NoPlace : Addr
  c_NoTable : Addr
  c_NoText : Addr
  c_NoRow : Addr
  c_NoPiece : Addr
  c_NothingLeft : Addr
  c_TooMany : Addr
  m_TrainError : mg "TrainError" = some (.ref c_TrainError)
  m_NoTrain : mg "NoTrain" = some (.ref c_NoTrain)
  m_NoStand : mg "NoStand" = some (.ref c_NoStand)
  m_NoPaper : mg "NoPaper" = some (.ref c_NoPaper)
  m_NoBox : mg "NoBox" = some (.ref c_NoBox)
  m_NoSwitch : mg "NoSwitch" = some (.ref c_NoSwitch)
  m_NoPlace : mg "NoPlace" = some (.ref c_NoPlace)
  m_NoTable : mg "NoTable" = some (.ref c_NoTable)
  m_NoText : mg "NoText" = some (.ref c_NoText)
  m_NoRow : mg "NoRow" = some (.ref c_NoRow)
  m_NoPiece : mg "NoPiece" = some (.ref c_NoPiece)
  m_NothingLeft : mg "NothingLeft" = some (.ref c_NothingLeft)
  m_TooMany : mg "TooMany" = some (.ref c_TooMany)
  x_NoBox : PySem.W.excIn K c_NoBox [.type "ValueError", .type "Exception", .type "BaseException", .type "object"] "ValueError.__new__" = true
  e_NoBox : PySem.W.exmOne K (.ref c_NoBox) (.ref c_TrainError) = some true
  i_NoBox_ga : PySem.W.findIn K (.ref c_NoBox) "__getattribute__" = some (some (.builtin "BaseException.__getattribute__"))
  i_NoBox_gt : PySem.W.findIn K (.ref c_NoBox) "__getattr__" = some none
  i_NoBox_mb : PySem.W.mroIn K c_NoBox (.type "BaseException") = some true
  i_NoBox_hd : PySem.W.hasDictIn K c_NoBox = true
  i_NoBox_ca : PySem.W.findIn K (.ref c_NoBox) "__class__" = some (some (.builtin "object.__class__"))
  i_NoBox_sp : PySem.W.specialIn K (.builtin "object.__class__") "__get__" = some (some (.builtin "getset_descriptor.__get__"))
  i_NoBox_tk : PySem.W.takesIn K (.builtin "object.__class__") = some true
  i_NoBox_mr : PySem.W.mroIn K c_NoBox (.type "object") = some true
  k_NoBox_NoTrain : PySem.W.kitOne K (.ref c_NoBox) (.ref c_NoTrain) = some false
  k_NoBox_NoStand : PySem.W.kitOne K (.ref c_NoBox) (.ref c_NoStand) = some false
  k_NoBox_NoPaper : PySem.W.kitOne K (.ref c_NoBox) (.ref c_NoPaper) = some false
  k_NoBox_NoBox : PySem.W.kitOne K (.ref c_NoBox) (.ref c_NoBox) = some true
  k_NoBox_NoSwitch : PySem.W.kitOne K (.ref c_NoBox) (.ref c_NoSwitch) = some false
  k_NoBox_NoPlace : PySem.W.kitOne K (.ref c_NoBox) (.ref c_NoPlace) = some false
  k_NoBox_NoTable : PySem.W.kitOne K (.ref c_NoBox) (.ref c_NoTable) = some false
  k_NoBox_NoText : PySem.W.kitOne K (.ref c_NoBox) (.ref c_NoText) = some false
  k_NoBox_NoRow : PySem.W.kitOne K (.ref c_NoBox) (.ref c_NoRow) = some false
  k_NoBox_NoPiece : PySem.W.kitOne K (.ref c_NoBox) (.ref c_NoPiece) = some false
  k_NoBox_NothingLeft : PySem.W.kitOne K (.ref c_NoBox) (.ref c_NothingLeft) = some false
  k_NoBox_TooMany : PySem.W.kitOne K (.ref c_NoBox) (.ref c_TooMany) = some false
  k_NoBox_ValueError : PySem.W.kitOne K (.ref c_NoBox) (.type "ValueError") = some true
  x_NoSwitch : PySem.W.excIn K c_NoSwitch [.type "ValueError", .type "Exception", .type "BaseException", .type "object"] "ValueError.__new__" = true
  e_NoSwitch : PySem.W.exmOne K (.ref c_NoSwitch) (.ref c_TrainError) = some true
  i_NoSwitch_ga : PySem.W.findIn K (.ref c_NoSwitch) "__getattribute__" = some (some (.builtin "BaseException.__getattribute__"))
  i_NoSwitch_gt : PySem.W.findIn K (.ref c_NoSwitch) "__getattr__" = some none
  i_NoSwitch_mb : PySem.W.mroIn K c_NoSwitch (.type "BaseException") = some true
  i_NoSwitch_hd : PySem.W.hasDictIn K c_NoSwitch = true
  i_NoSwitch_ca : PySem.W.findIn K (.ref c_NoSwitch) "__class__" = some (some (.builtin "object.__class__"))
  i_NoSwitch_sp : PySem.W.specialIn K (.builtin "object.__class__") "__get__" = some (some (.builtin "getset_descriptor.__get__"))
  i_NoSwitch_tk : PySem.W.takesIn K (.builtin "object.__class__") = some true
  i_NoSwitch_mr : PySem.W.mroIn K c_NoSwitch (.type "object") = some true
  k_NoSwitch_NoTrain : PySem.W.kitOne K (.ref c_NoSwitch) (.ref c_NoTrain) = some false
  k_NoSwitch_NoStand : PySem.W.kitOne K (.ref c_NoSwitch) (.ref c_NoStand) = some false
  k_NoSwitch_NoPaper : PySem.W.kitOne K (.ref c_NoSwitch) (.ref c_NoPaper) = some false
  k_NoSwitch_NoBox : PySem.W.kitOne K (.ref c_NoSwitch) (.ref c_NoBox) = some false
  k_NoSwitch_NoSwitch : PySem.W.kitOne K (.ref c_NoSwitch) (.ref c_NoSwitch) = some true
  k_NoSwitch_NoPlace : PySem.W.kitOne K (.ref c_NoSwitch) (.ref c_NoPlace) = some false
  k_NoSwitch_NoTable : PySem.W.kitOne K (.ref c_NoSwitch) (.ref c_NoTable) = some false
  k_NoSwitch_NoText : PySem.W.kitOne K (.ref c_NoSwitch) (.ref c_NoText) = some false
  k_NoSwitch_NoRow : PySem.W.kitOne K (.ref c_NoSwitch) (.ref c_NoRow) = some false
  k_NoSwitch_NoPiece : PySem.W.kitOne K (.ref c_NoSwitch) (.ref c_NoPiece) = some false
  k_NoSwitch_NothingLeft : PySem.W.kitOne K (.ref c_NoSwitch) (.ref c_NothingLeft) = some false
  k_NoSwitch_TooMany : PySem.W.kitOne K (.ref c_NoSwitch) (.ref c_TooMany) = some false
  k_NoSwitch_ValueError : PySem.W.kitOne K (.ref c_NoSwitch) (.type "ValueError") = some true
  x_NoPlace : PySem.W.excIn K c_NoPlace [.type "ValueError", .type "Exception", .type "BaseException", .type "object"] "ValueError.__new__" = true
  e_NoPlace : PySem.W.exmOne K (.ref c_NoPlace) (.ref c_TrainError) = some true
  i_NoPlace_ga : PySem.W.findIn K (.ref c_NoPlace) "__getattribute__" = some (some (.builtin "BaseException.__getattribute__"))
  i_NoPlace_gt : PySem.W.findIn K (.ref c_NoPlace) "__getattr__" = some none
  i_NoPlace_mb : PySem.W.mroIn K c_NoPlace (.type "BaseException") = some true
  i_NoPlace_hd : PySem.W.hasDictIn K c_NoPlace = true
  i_NoPlace_ca : PySem.W.findIn K (.ref c_NoPlace) "__class__" = some (some (.builtin "object.__class__"))
  i_NoPlace_sp : PySem.W.specialIn K (.builtin "object.__class__") "__get__" = some (some (.builtin "getset_descriptor.__get__"))
  i_NoPlace_tk : PySem.W.takesIn K (.builtin "object.__class__") = some true
  i_NoPlace_mr : PySem.W.mroIn K c_NoPlace (.type "object") = some true
  k_NoPlace_NoTrain : PySem.W.kitOne K (.ref c_NoPlace) (.ref c_NoTrain) = some false
  k_NoPlace_NoStand : PySem.W.kitOne K (.ref c_NoPlace) (.ref c_NoStand) = some false
  k_NoPlace_NoPaper : PySem.W.kitOne K (.ref c_NoPlace) (.ref c_NoPaper) = some false
  k_NoPlace_NoBox : PySem.W.kitOne K (.ref c_NoPlace) (.ref c_NoBox) = some false
  k_NoPlace_NoSwitch : PySem.W.kitOne K (.ref c_NoPlace) (.ref c_NoSwitch) = some false
  k_NoPlace_NoPlace : PySem.W.kitOne K (.ref c_NoPlace) (.ref c_NoPlace) = some true
  k_NoPlace_NoTable : PySem.W.kitOne K (.ref c_NoPlace) (.ref c_NoTable) = some false
  k_NoPlace_NoText : PySem.W.kitOne K (.ref c_NoPlace) (.ref c_NoText) = some false
  k_NoPlace_NoRow : PySem.W.kitOne K (.ref c_NoPlace) (.ref c_NoRow) = some false
  k_NoPlace_NoPiece : PySem.W.kitOne K (.ref c_NoPlace) (.ref c_NoPiece) = some false
  k_NoPlace_NothingLeft : PySem.W.kitOne K (.ref c_NoPlace) (.ref c_NothingLeft) = some false
  k_NoPlace_TooMany : PySem.W.kitOne K (.ref c_NoPlace) (.ref c_TooMany) = some false
  k_NoPlace_ValueError : PySem.W.kitOne K (.ref c_NoPlace) (.type "ValueError") = some true
theorem Cls.exc_NoBox {K : PySem.W.Frag} {mg : Str → Option Value} (Z : Cls K mg) : ExcCls K mg "NoBox" Z.c_NoBox [.type "ValueError", .type "Exception", .type "BaseException", .type "object"] "ValueError.__new__" := ⟨Z.m_NoBox, Z.x_NoBox⟩
theorem Cls.isi_NoBox {K : PySem.W.Frag} {mg : Str → Option Value} (Z : Cls K mg) : IsiCls K Z.c_NoBox := ⟨Z.i_NoBox_ga, Z.i_NoBox_gt, Z.i_NoBox_mb, Z.i_NoBox_hd, Z.i_NoBox_ca, Z.i_NoBox_sp, Z.i_NoBox_tk, Z.i_NoBox_mr⟩
theorem Cls.exc_NoSwitch {K : PySem.W.Frag} {mg : Str → Option Value} (Z : Cls K mg) : ExcCls K mg "NoSwitch" Z.c_NoSwitch [.type "ValueError", .type "Exception", .type "BaseException", .type "object"] "ValueError.__new__" := ⟨Z.m_NoSwitch, Z.x_NoSwitch⟩
theorem Cls.isi_NoSwitch {K : PySem.W.Frag} {mg : Str → Option Value} (Z : Cls K mg) : IsiCls K Z.c_NoSwitch := ⟨Z.i_NoSwitch_ga, Z.i_NoSwitch_gt, Z.i_NoSwitch_mb, Z.i_NoSwitch_hd, Z.i_NoSwitch_ca, Z.i_NoSwitch_sp, Z.i_NoSwitch_tk, Z.i_NoSwitch_mr⟩
theorem Cls.exc_NoPlace {K : PySem.W.Frag} {mg : Str → Option Value} (Z : Cls K mg) : ExcCls K mg "NoPlace" Z.c_NoPlace [.type "ValueError", .type "Exception", .type "BaseException", .type "object"] "ValueError.__new__" := ⟨Z.m_NoPlace, Z.x_NoPlace⟩
theorem Cls.isi_NoPlace {K : PySem.W.Frag} {mg : Str → Option Value} (Z : Cls K mg) : IsiCls K Z.c_NoPlace := ⟨Z.i_NoPlace_ga, Z.i_NoPlace_gt, Z.i_NoPlace_mb, Z.i_NoPlace_hd, Z.i_NoPlace_ca, Z.i_NoPlace_sp, Z.i_NoPlace_tk, Z.i_NoPlace_mr⟩
structure Own (K : PySem.W.Frag) (mg : Str → Option Value) where
  c_Switch : Addr
  c_Box : Addr
  m_Switch : mg "Switch" = some (.ref c_Switch)
  m_Box : mg "Box" = some (.ref c_Box)
  pg_Switch : PySem.W.plainGet K c_Switch Str.empty = true
  hd_Switch : PySem.W.hasDictIn K c_Switch = true
  po_Switch : PySem.W.plainOver K c_Switch = true
  sa_Switch : PySem.W.findIn K (.ref c_Switch) "__setattr__" = some (some (.builtin "object.__setattr__"))
  mk_Switch : PySem.W.makesIn K c_Switch = true
  kc_Switch : PySem.W.keepIn K (.ref c_Switch) = true
  na_Switch_low : PySem.W.findIn K (.ref c_Switch) "low" = some none
  na_Switch_high : PySem.W.findIn K (.ref c_Switch) "high" = some none
  na_Switch_is_on : PySem.W.findIn K (.ref c_Switch) "is_on" = some none
  pg_Box : PySem.W.plainGet K c_Box Str.empty = true
  hd_Box : PySem.W.hasDictIn K c_Box = true
  po_Box : PySem.W.plainOver K c_Box = true
  sa_Box : PySem.W.findIn K (.ref c_Box) "__setattr__" = some (some (.builtin "object.__setattr__"))
  mk_Box : PySem.W.makesIn K c_Box = true
  kc_Box : PySem.W.keepIn K (.ref c_Box) = true
  na_Box_top : PySem.W.findIn K (.ref c_Box) "top" = some none
  na_Box_switches : PySem.W.findIn K (.ref c_Box) "switches" = some none
  na_Box_weights : PySem.W.findIn K (.ref c_Box) "weights" = some none
  na_Box_at : PySem.W.findIn K (.ref c_Box) "at" = some none
theorem Own.cl_Switch {K : PySem.W.Frag} {mg : Str → Option Value} (Y : Own K mg) : L2.Cls K Y.c_Switch := ⟨Y.pg_Switch, Y.hd_Switch, Y.po_Switch, Y.sa_Switch⟩
theorem Own.cl_Box {K : PySem.W.Frag} {mg : Str → Option Value} (Y : Own K mg) : L2.Cls K Y.c_Box := ⟨Y.pg_Box, Y.hd_Box, Y.po_Box, Y.sa_Box⟩
section
variable {P : Program} {w : World} {K : PySem.W.Frag} {mg : Str → Option Value} {base : Heap}
/-- a new list of ints has come -/
structure NewI (H H' : Hp) (l : Addr) (xs : List Int) : Prop where
  fr : H l = none
  sm : Same H H'
  at_ : H' l = some (.lst (iL xs))
theorem NewI.app {H H' : Hp} {l : Addr} {xs : List Int} {x : Int} (N : NewI H H' l xs) : NewI H (upd H' l (.lst (iL xs ++ [V.int x]))) l (xs ++ [x]) :=
  ⟨N.fr, fun b o e => by rw [upd_ne (ne_of_none e N.fr)]; exact N.sm b o e, by rw [upd_same]; simp [iL]⟩
def spLaw (K : PySem.W.Frag) : Sp := fun vs H Q _ => ∃ (a : Addr) (ns : List Int), vs = [.ref a] ∧ SqL K H a (ns.map V.int) ∧ ns.length ≤ 63 ∧ ∀ H', Q (.bl true) H'

/-- what is raised: NoTrain where it is no train, else NoStand where no stand -/
def Exs (E : XK) (H : Hp) (CT CS : Addr) (tr st : Prop) : Prop := (¬ tr → ∀ H', Same H H' → E (.ref CT) none H') ∧ (tr → ¬ st → ∀ H', Same H H' → E (.ref CS) none H')
def spDraws : Sp := fun vs H Q _ => ∃ cell many bas : Int, vs = [.int cell, .int many, .int bas] ∧ 0 ≤ many ∧ many ≤ 5000 ∧ 0 < bas ∧ bas < 1073741824 ∧
  ∀ l H' xs, NewI H H' l xs → (xs.length : Int) = many → (∀ x ∈ xs, 0 ≤ x ∧ x < bas) → Q (.ref l) H'
theorem ok_law_draws (T : Txt mg) (D : Def K mg "_law_draws" s_law_draws) : Callee P w K mg base "_law_draws" 1 spDraws := by
  refine D.ok sc_law_draws bd_law_draws (fun vs H Q E h => ?len) (fun f cdv A outer s H vs Q E hr h => ?body)
  case len => obtain ⟨p, a, x, rfl, _⟩ := h; rfl
  case body =>
    obtain ⟨cell, many, bas, rfl, h1, h2, h3, h4, k⟩ := h
    refine ⟨_, (pss_cons (ps_set (i := 3) sc_law_draws.nd rfl (Or.inl rfl) (pe_lst pa_nil))
 (pss_cons (ps_set (i := 4) sc_law_draws.nd rfl (Or.inl rfl) (pe_op op_mulP (pv 0) (pe_callTy call_intK (by rfl) T.z_int bt_int (pa_cons (pe_cmpR op_ge (pv 0) (pe_powK (r := 1000000000000000000) (by decide)) (nomark _)) pa_nil))))
 (pss_cons (ps_set (i := 5) sc_law_draws.nd rfl (Or.inl rfl) (pe_op op_mod (pv 0) pe_int))
 (pss_cons (ps_for PassesOwn.never rfl (pi_range1 (by rfl) T.z_range (pa_cons (pe_op op_addP (pv 1) pe_int) pa_nil)) (pg_name (i := 6) sc_law_draws.nd rfl (Or.inl rfl))
 (pss_cons (ps_set (i := 5) sc_law_draws.nd rfl (Or.inl rfl) (pe_op op_mod (pe_op op_addP (pe_op op_addP (pe_op op_addP (pe_op op_mulP (pv 5) (pv 5)) (pe_op op_mulP pe_int (pv 5))) (pv 6)) pe_int) pe_int))
 (pss_one (ps_if (PW.pt (pw_and (pt_cmpR op_gt (pv 6) pe_int (nomark _)) (pw_and1 (pt_cmpR op_gt (pv 4) pe_int (nomark _)))))
 (pss_cons (ps_expr (pe_bmK K PySem.F.plainAttrs_list PySem.F.slot_list_append PySem.F.type_list_append mt_append (pv 3) (pa_cons (pe_op op_mod (pv 4) (pv 2)) pa_nil)))
 (pss_one (ps_set (i := 4) sc_law_draws.nd rfl (Or.inl rfl) (pe_op op_fdiv (pv 4) (pv 2)))))
 (pss_one (ps_if (pt_cmpR op_gt (pv 6) pe_int (nomark _))
 (pss_one (ps_expr (pe_bmK K PySem.F.plainAttrs_list PySem.F.slot_list_append PySem.F.type_list_append mt_append (pv 3) (pa_cons (pe_op op_mod (pe_op op_fdiv (pv 5) pe_int) (pv 2)) pa_nil))))
 pss_nil))))))
 (pss_one (ps_ret (pv 3))))))), ?_⟩
    dsimp only [tSeq, tAsg, gName, tOp, tUn, tTest, tB, tAnd, tOr, tNot, tAndV, tOrV, tNotV, tIf, tIfS, tRet, tRetN, tDrop, tNext, tCons, tNil, tCB, tCall, tMenu, tComp, tComp2, msk, List.zipWith, tMakeS, iZip2, iEnum, tNoIf, tTru, tJoin, cxOf_K, tLst, tTup, tSl, tPart, tNoPart, tBM, tBM0, tChain, tC, tFor_eq, gTup, gCons, gNil, gSub, iList, iRng1, iRng2, iRng3, iTup, tWhile, tRev, tFld, sFld, tMeth, tMethS, tMake, tRaise, tCallS, tTry, tAug, tPar, tNever, ipI, List.append_nil]
    refine ⟨szl (by decide), fun l hl => ?_⟩
    walk_at "st"
    refine i_mulI (cmul_r ?_ ?_) ?_
    · split <;> decide
    · split <;> decide
    generalize cell * _ = rest
    walk_at "st"
    have hst0 : 0 ≤ cell % 2305843009213693951 := Int.emod_nonneg _ (by decide)
    have hst1 : cell % 2305843009213693951 < 2305843009213693951 := Int.emod_lt_of_pos _ (by decide)
    generalize cell % 2305843009213693951 = stirred at *
    refine ⟨by omega, by omega, lp_range (fun i σ H2 => ∃ (rest stirred : Int) (kk : Option V) (xs : List Int), σ = [some (.int cell), some (.int many), some (.int bas), some (.ref l), some (.int rest), some (.int stirred), kk] ∧
      0 ≤ stirred ∧ stirred < 2305843009213693951 ∧ NewI H H2 l xs ∧ xs.length = i - 3 ∧ ∀ x ∈ xs, 0 ≤ x ∧ x < bas) ?_ ?_ ?_⟩
    · exact ⟨rest, stirred, none, [], rfl, hst0, hst1, ⟨hl, same_upd hl, upd_same⟩, rfl, by simp⟩
    · rintro i σ H2 hi ⟨rest, stirred, kk, xs, rfl, s0, s1, N, hx, hb⟩
      walk_at "st"
      refine i_mulI (cmul_l (by omega) (by omega)) ?_
      walk_at "st"
      refine i_mulI (cmul_l (by decide) (by decide)) ?_
      walk_at "st"
      have hst0 := Int.emod_nonneg (stirred * stirred + 48271 * stirred + (0 + (i : Int)) + 1) (show (2305843009213693951 : Int) ≠ 0 by decide)
      have hst1 := Int.emod_lt_of_pos (stirred * stirred + 48271 * stirred + (0 + (i : Int)) + 1) (show (0 : Int) < 2305843009213693951 by decide)
      generalize (stirred * stirred + 48271 * stirred + (0 + (i : Int)) + 1) % 2305843009213693951 = stirred2 at *
      have app : ∀ v, 3 ≤ i → 0 ≤ v → v < bas → ∀ rest2, ∃ (rest stirred : Int) (kk : Option V) (ys : List Int), [some (V.int cell), some (.int many), some (.int bas), some (.ref l), some (.int rest2), some (.int stirred2), some (V.int (0 + (i : Int)))] = [some (.int cell), some (.int many), some (.int bas), some (.ref l), some (.int rest), some (.int stirred), kk] ∧
        0 ≤ stirred ∧ stirred < 2305843009213693951 ∧ NewI H (upd H2 l (.lst (iL xs ++ [V.int v]))) l ys ∧ ys.length = i + 1 - 3 ∧ ∀ x ∈ ys, 0 ≤ x ∧ x < bas := by
        intro v hi3 hv0 hv1 rest2
        refine ⟨rest2, stirred2, some (V.int (0 + (i : Int))), xs ++ [v], rfl, hst0, hst1, N.app, ?_, ?_⟩
        · simp; omega
        · intro x hxm
          rcases List.mem_append.mp hxm with z | z
          · exact hb x z
          · simp at z; subst z; exact ⟨hv0, hv1⟩
      have lenx : xs.length ≤ 100000 := by omega
      refine i_if (fun g1 => ?_) (fun g1 => ?_)
      · walk_at "st"
        refine i_if (fun g2 => ?_) (fun g2 => ?_)
        · walk_at "st"
          refine ⟨.inl ⟨rfl, _, SqL.of N.at_⟩, ?_⟩
          walk_at "st"
          refine i_app N.at_ (szlt (by simpa [iL] using lenx)) ?_
          walk_at "st"
          exact app _ (by omega) (Int.emod_nonneg _ (by omega)) (Int.emod_lt_of_pos _ h3) _
        · walk_at "st"
          refine i_if (fun g3 => ?_) (fun g3 => absurd g1 g3)
          walk_at "st"
          refine ⟨.inl ⟨rfl, _, SqL.of N.at_⟩, ?_⟩
          walk_at "st"
          refine i_app N.at_ (szlt (by simpa [iL] using lenx)) ?_
          exact app _ (by omega) (Int.emod_nonneg _ (by omega)) (Int.emod_lt_of_pos _ h3) _
      · walk_at "st"
        refine i_if (fun g3 => absurd g3 g1) (fun g3 => ?_)
        exact ⟨rest, stirred2, _, xs, rfl, hst0, hst1, N, by omega, hb⟩
    · rintro σ H2 ⟨rest, stirred, kk, xs, rfl, s0, s1, N, hx, hb⟩
      walk_at "st"
      exact k l H2 xs N (by omega) hb

--SPLIT
abbrev bL (bs : List Bool) : List V := bs.map V.bl
theorem i_isx {H : Hp} {Q : VK} {e D C' : Addr} {b : Bool} (he : H e = some (.ext (ExcAt e (.ref D)))) (C : IsiCls K D) (hk : PySem.W.kitOne K (.ref D) (.ref C') = some b) (q : Q (.bl b) H) : rIsiX K [.ref e, .ref C'] H Q := ⟨e, D, _, _, b, rfl, fun _ h => h, he, C, hk, q⟩
theorem i_isxT {H : Hp} {Q : VK} {e D : Addr} {n : String} {b : Bool} (he : H e = some (.ext (ExcAt e (.ref D)))) (C : IsiCls K D) (hk : PySem.W.kitOne K (.ref D) (.type n) = some b) (q : Q (.bl b) H) : rIsiX K [.ref e, .ty n] H Q := ⟨e, D, _, _, b, rfl, fun _ h => h, he, C, hk, q⟩
theorem bt_ValueError : bootBuiltins "ValueError" = some (.type "ValueError") := by decide +kernel
structure KinF (Z : Cls K mg) (C : Addr) (b0 b1 b2 b3 b4 b5 b6 b7 b8 b9 b10 b11 : Bool) : Prop where
  isi : IsiCls K C
  f0 : PySem.W.kitOne K (.ref C) (.ref Z.c_NoTrain) = some b0
  f1 : PySem.W.kitOne K (.ref C) (.ref Z.c_NoStand) = some b1
  f2 : PySem.W.kitOne K (.ref C) (.ref Z.c_NoPaper) = some b2
  f3 : PySem.W.kitOne K (.ref C) (.ref Z.c_NoBox) = some b3
  f4 : PySem.W.kitOne K (.ref C) (.ref Z.c_NoSwitch) = some b4
  f5 : PySem.W.kitOne K (.ref C) (.ref Z.c_NoPlace) = some b5
  f6 : PySem.W.kitOne K (.ref C) (.ref Z.c_NoTable) = some b6
  f7 : PySem.W.kitOne K (.ref C) (.ref Z.c_NoText) = some b7
  f8 : PySem.W.kitOne K (.ref C) (.ref Z.c_NoRow) = some b8
  f9 : PySem.W.kitOne K (.ref C) (.ref Z.c_NoPiece) = some b9
  f10 : PySem.W.kitOne K (.ref C) (.ref Z.c_NothingLeft) = some b10
  f11 : PySem.W.kitOne K (.ref C) (.ref Z.c_TooMany) = some b11
  f12 : PySem.W.kitOne K (.ref C) (.type "ValueError") = some true
def spKinG (Z : Cls K mg) : Sp := fun vs H Q _ => ∃ (e C : Addr) (b0 b1 b2 b3 b4 b5 b6 b7 b8 b9 b10 b11 : Bool), vs = [.ref e] ∧ H e = some (.ext (ExcAt e (.ref C))) ∧ KinF Z C b0 b1 b2 b3 b4 b5 b6 b7 b8 b9 b10 b11 ∧ ∀ l H', Same H H' → H' l = some (.lst (bL [b0, b1, b2, b3, b4, b5, b6, b7, b8, b9, b10, b11, true])) → Q (.ref l) H'
theorem ok_law_a_kin (T : Txt mg) (Z : Cls K mg) (D : Def K mg "_law_a_kin" s_law_a_kin) : CalleeN P w K mg base "_law_a_kin" 1 (spKinG Z) := by
  refine Def.okN D sc_law_a_kin bd_law_a_kin (fun vs H Q E h => ?len) (fun f cdv A outer s H vs Q E hr h => ?body)
  case len => obtain ⟨e, C, b0, b1, b2, b3, b4, b5, b6, b7, b8, b9, b10, b11, rfl, _⟩ := h; rfl
  case body =>
    obtain ⟨e, C, b0, b1, b2, b3, b4, b5, b6, b7, b8, b9, b10, b11, rfl, hE, F, k⟩ := h
    refine ⟨_, (pss_cons (ps_set (i := 1) sc_law_a_kin.nd rfl (Or.inl rfl) (pe_lst (pa_cons (pe_callB (call_isinstanceX K) (by rfl) T.z_isinstance bt_isinstance (pa_cons (pv 0) (pa_cons (pe_globR Z.m_NoTrain (by rfl)) pa_nil))) (pa_cons (pe_callB (call_isinstanceX K) (by rfl) T.z_isinstance bt_isinstance (pa_cons (pv 0) (pa_cons (pe_globR Z.m_NoStand (by rfl)) pa_nil))) (pa_cons (pe_callB (call_isinstanceX K) (by rfl) T.z_isinstance bt_isinstance (pa_cons (pv 0) (pa_cons (pe_globR Z.m_NoPaper (by rfl)) pa_nil))) (pa_cons (pe_callB (call_isinstanceX K) (by rfl) T.z_isinstance bt_isinstance (pa_cons (pv 0) (pa_cons (pe_globR Z.m_NoBox (by rfl)) pa_nil))) pa_nil))))))
 (pss_cons (ps_set (i := 1) sc_law_a_kin.nd rfl (Or.inl rfl) (pe_op op_addP (pv 1) (pe_lst (pa_cons (pe_callB (call_isinstanceX K) (by rfl) T.z_isinstance bt_isinstance (pa_cons (pv 0) (pa_cons (pe_globR Z.m_NoSwitch (by rfl)) pa_nil))) (pa_cons (pe_callB (call_isinstanceX K) (by rfl) T.z_isinstance bt_isinstance (pa_cons (pv 0) (pa_cons (pe_globR Z.m_NoPlace (by rfl)) pa_nil))) (pa_cons (pe_callB (call_isinstanceX K) (by rfl) T.z_isinstance bt_isinstance (pa_cons (pv 0) (pa_cons (pe_globR Z.m_NoTable (by rfl)) pa_nil))) pa_nil))))))
 (pss_cons (ps_set (i := 1) sc_law_a_kin.nd rfl (Or.inl rfl) (pe_op op_addP (pv 1) (pe_lst (pa_cons (pe_callB (call_isinstanceX K) (by rfl) T.z_isinstance bt_isinstance (pa_cons (pv 0) (pa_cons (pe_globR Z.m_NoText (by rfl)) pa_nil))) (pa_cons (pe_callB (call_isinstanceX K) (by rfl) T.z_isinstance bt_isinstance (pa_cons (pv 0) (pa_cons (pe_globR Z.m_NoRow (by rfl)) pa_nil))) (pa_cons (pe_callB (call_isinstanceX K) (by rfl) T.z_isinstance bt_isinstance (pa_cons (pv 0) (pa_cons (pe_globR Z.m_NoPiece (by rfl)) pa_nil))) pa_nil))))))
 (pss_one (ps_ret (pe_op op_addP (pv 1) (pe_lst (pa_cons (pe_callB (call_isinstanceX K) (by rfl) T.z_isinstance bt_isinstance (pa_cons (pv 0) (pa_cons (pe_globR Z.m_NothingLeft (by rfl)) pa_nil))) (pa_cons (pe_callB (call_isinstanceX K) (by rfl) T.z_isinstance bt_isinstance (pa_cons (pv 0) (pa_cons (pe_globR Z.m_TooMany (by rfl)) pa_nil))) (pa_cons (pe_callB (call_isinstanceX K) (by rfl) T.z_isinstance bt_isinstance (pa_cons (pv 0) (pa_cons (pe_bltn (by rfl) T.z_ValueError bt_ValueError (show RelV (.ty "ValueError") _ from rfl)) pa_nil))) pa_nil)))))))))), ?_⟩
    dsimp only [tSeq, tAsg, gName, tOp, tUn, tTest, tB, tAnd, tOr, tNot, tAndV, tOrV, tNotV, tIf, tIfS, tRet, tRetN, tDrop, tNext, tCons, tNil, tCB, tCall, tMenu, tComp, tComp2, msk, List.zipWith, tMakeS, iZip2, iEnum, tNoIf, tTru, tJoin, cxOf_K, tLst, tTup, tSl, tPart, tNoPart, tBM, tBM0, tChain, tC, tFor_eq, gTup, gCons, gNil, gSub, iList, iRng1, iRng2, iRng3, iTup, tWhile, tRev, tFld, sFld, tMeth, tMethS, tMake, tRaise, tCallS, tTry, tAug, tPar, tNever, ipI, List.append_nil]
    walk_at "st"
    refine i_isx hE F.isi F.f0 ?_
    walk_at "st"
    refine i_isx hE F.isi F.f1 ?_
    walk_at "st"
    refine i_isx hE F.isi F.f2 ?_
    walk_at "st"
    refine i_isx hE F.isi F.f3 ?_
    walk_at "st"
    intro l1 h1
    have s1 : Same H _ := same_upd (o := .lst [.bl b0, .bl b1, .bl b2, .bl b3]) h1
    have e1 : upd H l1 (.lst [.bl b0, .bl b1, .bl b2, .bl b3]) l1 = some (.lst [.bl b0, .bl b1, .bl b2, .bl b3]) := upd_same
    generalize upd H l1 (.lst [.bl b0, .bl b1, .bl b2, .bl b3]) = H1 at *
    have hE1 := s1 _ _ hE
    walk_at "st"
    refine i_isx hE1 F.isi F.f4 ?_
    walk_at "st"
    refine i_isx hE1 F.isi F.f5 ?_
    walk_at "st"
    refine i_isx hE1 F.isi F.f6 ?_
    walk_at "st"
    intro l2 h2
    refine i_addL (a := l1) (b := l2) (same_upd h2 _ _ e1) upd_same (szl (by simp)) (fun l3 h3 => ?_)
    have s3 : Same H1 _ := (same_upd (o := .lst [.bl b4, .bl b5, .bl b6]) h2).trans (same_upd (o := .lst ([.bl b0, .bl b1, .bl b2, .bl b3] ++ [.bl b4, .bl b5, .bl b6])) h3)
    have e3 : upd (upd H1 l2 (.lst [.bl b4, .bl b5, .bl b6])) l3 (.lst ([.bl b0, .bl b1, .bl b2, .bl b3] ++ [.bl b4, .bl b5, .bl b6])) l3 = some (.lst ([.bl b0, .bl b1, .bl b2, .bl b3] ++ [.bl b4, .bl b5, .bl b6])) := upd_same
    generalize upd (upd H1 l2 (.lst [.bl b4, .bl b5, .bl b6])) l3 (.lst ([.bl b0, .bl b1, .bl b2, .bl b3] ++ [.bl b4, .bl b5, .bl b6])) = H3 at *
    have S3 := s1.trans s3
    have hE3 := S3 _ _ hE
    walk_at "st"
    refine i_isx hE3 F.isi F.f7 ?_
    walk_at "st"
    refine i_isx hE3 F.isi F.f8 ?_
    walk_at "st"
    refine i_isx hE3 F.isi F.f9 ?_
    walk_at "st"
    intro l4 h4
    refine i_addL (a := l3) (b := l4) (same_upd h4 _ _ e3) upd_same (szl (by simp)) (fun l5 h5 => ?_)
    generalize hx5 : ([.bl b0, .bl b1, .bl b2, .bl b3] ++ [.bl b4, .bl b5, .bl b6] ++ [.bl b7, .bl b8, .bl b9] : List V) = x5 at *
    have s5 : Same H3 _ := (same_upd (o := .lst [.bl b7, .bl b8, .bl b9]) h4).trans (same_upd (o := .lst x5) h5)
    have e5 : upd (upd H3 l4 (.lst [.bl b7, .bl b8, .bl b9])) l5 (.lst x5) l5 = some (.lst x5) := upd_same
    generalize upd (upd H3 l4 (.lst [.bl b7, .bl b8, .bl b9])) l5 (.lst x5) = H5 at *
    have S5 := S3.trans s5
    have hE5 := S5 _ _ hE
    walk_at "st"
    refine i_isx hE5 F.isi F.f10 ?_
    walk_at "st"
    refine i_isx hE5 F.isi F.f11 ?_
    walk_at "st"
    refine i_isxT hE5 F.isi F.f12 ?_
    walk_at "st"
    intro l6 h6
    refine i_addL (a := l5) (b := l6) (same_upd h6 _ _ e5) upd_same (szl (by rw [← hx5]; simp)) (fun l7 h7 => ?_)
    refine k l7 _ ((S5.trans (same_upd h6)).trans (same_upd h7)) ?_
    rw [upd_same, ← hx5]
    rfl

def kinNames : List Str := ["NoTrain", "NoStand", "NoPaper", "NoBox", "NoSwitch", "NoPlace", "NoTable", "NoText", "NoRow", "NoPiece", "NothingLeft", "TooMany"]
theorem pd_str {H : Hp} {n : Nat} {x : Str} (h : PyData.strOk x = true) : PdAt K H n (.str x) (.str x) := by cases n <;> exact ⟨rfl, h⟩
theorem i_eqS {H : Hp} {Q : VK} {x y : Str} (hx : PyData.strOk x = true) (hy : PyData.strOk y = true) (q : Q (.bl (x == y)) H) : rEqP K (.str x) (.str y) H Q := ⟨_, _, pd_str hx, pd_str hy, by simpa [PyData.eqv] using q⟩
theorem i_neS {H : Hp} {Q : VK} {x y : Str} (hx : PyData.strOk x = true) (hy : PyData.strOk y = true) (q : Q (.bl (!(x == y))) H) : rNeP K (.str x) (.str y) H Q := ⟨_, _, pd_str hx, pd_str hy, by simpa [PyData.eqv] using q⟩
theorem names_ok : kinNames.all PyData.strOk = true := by decide +kernel
def dueX (x : Str) : List Bool := kinNames.map (· == x) ++ [true]
def spDueKinG : Sp := fun vs H Q _ => ∃ x : Str, vs = [.str x] ∧ PyData.strOk x = true ∧ ∀ l H', Same H H' → H' l = some (.lst (bL (dueX x))) → Q (.ref l) H'
theorem ok_law_due_kin (T : Txt mg) (D : Def K mg "_law_due_kin" s_law_due_kin) : Callee P w K mg base "_law_due_kin" 1 spDueKinG := by
  refine D.ok sc_law_due_kin bd_law_due_kin (fun vs H Q E h => ?len) (fun f cdv A outer s H vs Q E hr h => ?body)
  case len => obtain ⟨x, rfl, _⟩ := h; rfl
  case body =>
    obtain ⟨nm, rfl, hnm, k⟩ := h
    have hu := hr.units
    refine ⟨_, (pss_cons (ps_set (i := 1) sc_law_due_kin.nd rfl (Or.inl rfl) (pe_lst (pa_cons pe_str (pa_cons pe_str (pa_cons pe_str (pa_cons pe_str (pa_cons pe_str (pa_cons pe_str (pa_cons pe_str (pa_cons pe_str (pa_cons pe_str pa_nil)))))))))))
 (pss_cons (ps_set (i := 1) sc_law_due_kin.nd rfl (Or.inl rfl) (pe_op op_addP (pv 1) (pe_lst (pa_cons pe_str (pa_cons pe_str (pa_cons pe_str pa_nil))))))
 (pss_one (ps_ret (pe_op op_addP (by exact pe_comp (N := ["one", "name"]) (fr := [none, some 0]) ⟨by rfl, by decide +kernel, by decide +kernel, (show ∀ y ∈ (_ : List (Str × NameKind)), y.2 = NameKind.free → (defScope s_law_due_kin).names.lookup y.1 = some .cell ∨ (defScope s_law_due_kin).names.lookup y.1 = some .free by decide +kernel), (fr_none (fr_some (by rfl) (by first | exact Or.inl rfl | exact Or.inr rfl) (by rfl) fr_nil))⟩ (by rfl) (pi_listK K (pv 1)) (fun _ _ _ _ => (pg_name (i := 0) (show List.Nodup (["one", "name"] : List Str) by decide) (by rfl) (by first | exact Or.inl rfl | exact Or.inr rfl))) (fun _ _ _ _ => pifs_nil) (fun _ _ _ _ => (pe_cmpR (op_eqK K hu) (pv 0) (pv 1) (nomark _))) (gw_name (by rfl))) (pe_lst (pa_cons pe_bl pa_nil))))))), ?_⟩
    dsimp only [tSeq, tAsg, gName, tOp, tUn, tTest, tB, tAnd, tOr, tNot, tAndV, tOrV, tNotV, tIf, tIfS, tRet, tRetN, tDrop, tNext, tCons, tNil, tCB, tCall, tMenu, tComp, tComp2, msk, List.zipWith, tMakeS, iZip2, iEnum, tNoIf, tTru, tJoin, cxOf_K, tLst, tTup, tSl, tPart, tNoPart, tBM, tBM0, tChain, tC, tFor_eq, gTup, gCons, gNil, gSub, iList, iRng1, iRng2, iRng3, iTup, tWhile, tRev, tFld, sFld, tMeth, tMethS, tMake, tRaise, tCallS, tTry, tAug, tPar, tNever, ipI, List.append_nil]
    walk_at "st"
    intro l1 h1
    walk_at "st"
    intro l2 h2
    refine i_addL (a := l1) (b := l2) (same_upd h2 _ _ upd_same) upd_same (szl (by simp)) (fun l3 h3 => ?_)
    have s3' : ∀ o, Same H (upd _ l3 o) := fun o => ((same_upd h1).trans (same_upd h2)).trans (same_upd (o := o) h3)
    generalize hH : upd _ l3 _ = H3
    have s3 : Same H H3 := by rw [← hH]; exact s3' _
    have e4 : H3 l3 = some (.lst (kinNames.map V.str)) := by rw [← hH, upd_same]; rfl
    walk_at "st"
    refine ⟨⟨_, SqL.of e4⟩, cp_list (xs := kinNames.map V.str) (fun i ys H4 => ys = bL ((kinNames.take i).map (· == nm)) ∧ i ≤ 12 ∧ H3 = H4) ⟨by simp [bL], Nat.zero_le _, rfl⟩ ?_ (szlt (by simp [kinNames])) ?_ ?_⟩
    · rintro i ys H4 ⟨rfl, hi, rfl⟩
      exact ⟨SqL.of e4, by simp [bL]; omega⟩
    · rintro i x ys H4 hx ⟨rfl, hi, rfl⟩
      rw [List.getElem?_map] at hx
      obtain ⟨z, hz, rfl⟩ := Option.map_eq_some_iff.mp hx
      have hil : i < kinNames.length := (List.getElem?_eq_some_iff.mp hz).1
      walk_at "st"
      refine i_eqS (List.all_eq_true.mp names_ok z (List.mem_of_getElem? hz)) hnm ?_
      refine ⟨?_, by simp [kinNames] at hil; omega, rfl⟩
      rw [take_snoc_get hz]
      simp [bL]
    · rintro l5 ys H4 ⟨rfl, hi, rfl⟩ h5
      walk_at "st"
      intro l6 h6
      refine i_addL (a := l5) (b := l6) (same_upd h6 _ _ upd_same) upd_same (szl (by simp [bL, kinNames])) (fun l7 h7 => ?_)
      refine k l7 _ (((s3.trans (same_upd h5)).trans (same_upd h6)).trans (same_upd h7)) ?_
      rw [upd_same]
      rfl

--SPLIT
theorem putF_le (f : Str) (v : V) : ∀ fs : List (Str × V), (putF f v fs).length ≤ fs.length + 1
  | [] => by simp [putF]
  | (g, x) :: r => by
    unfold putF
    split
    · simp
    · have := putF_le f v r
      simp
      omega
theorem putF_put (f : Str) (v u : V) : ∀ fs : List (Str × V), putF f v (putF f u fs) = putF f v fs
  | [] => by simp [putF]
  | (g, x) :: r => by
    by_cases h : g = f
    · simp [putF, h]
    · simp [putF, h, putF_put f v u r]

def sfl (lo hi : Int) (on : Bool) : List (Str × V) := putF "is_on" (.bl on) (putF "high" (.int hi) (putF "low" (.int lo) []))
theorem sfl_on (lo hi : Int) (on : Bool) : (sfl lo hi on).lookup ("is_on" : Str) = some (.bl on) := by unfold sfl; rw [lookup_putF, if_pos rfl]
theorem sfl_high (lo hi : Int) (on : Bool) : (sfl lo hi on).lookup ("high" : Str) = some (.int hi) := by unfold sfl; rw [lookup_putF, if_neg (by decide +kernel), lookup_putF, if_pos rfl]
theorem sfl_low (lo hi : Int) (on : Bool) : (sfl lo hi on).lookup ("low" : Str) = some (.int lo) := by unfold sfl; rw [lookup_putF, if_neg (by decide +kernel), lookup_putF, if_neg (by decide +kernel), lookup_putF, if_pos rfl]
theorem sfl_no (lo hi : Int) (on : Bool) {m : Str} (h1 : ¬ m = "is_on") (h2 : ¬ m = "high") (h3 : ¬ m = "low") : (sfl lo hi on).lookup m = none := by
  unfold sfl
  rw [lookup_putF, if_neg h1, lookup_putF, if_neg h2, lookup_putF, if_neg h3]
  rfl
theorem sfl_len (lo hi : Int) (on : Bool) : (sfl lo hi on).length < 1000 := by
  unfold sfl
  have a := putF_le "is_on" (.bl on) (putF "high" (.int hi) (putF "low" (.int lo) []))
  have b := putF_le "high" (.int hi) (putF "low" (.int lo) [])
  have c := putF_le "low" (.int lo) ([] : List (Str × V))
  simp at c
  omega
theorem sfl_put (lo hi : Int) (on b : Bool) : putF "is_on" (.bl b) (sfl lo hi on) = sfl lo hi b := putF_put _ _ _ _
/-- a switch stands at q -/
def SwAt (C : Addr) (H : Hp) (q : Addr) (s : Int × Int × Bool) : Prop := ∃ dx, H q = some (.ins C dx (sfl s.1 s.2.1 s.2.2))
theorem upd_upd {H : Hp} {p : Addr} {a b : HO} : upd (upd H p a) p b = upd H p b := by
  funext q
  by_cases h : q = p
  · subst h; rw [upd_same, upd_same]
  · rw [upd_ne h, upd_ne h, upd_ne h]

def okTop (top : Int) : Prop := 1 ≤ top ∧ top ≤ 16
def spRefTopE (CB : Addr) : Sp := fun vs H Q E => ∃ top : Int, vs = [.int top] ∧ (okTop top → Q .non H) ∧ (¬ okTop top → E (.ref CB) none H)
theorem ok_refuse_no_top (T : Txt mg) (Z : Cls K mg) (D : Def K mg "refuse_no_top" s_refuse_no_top) : CalleeE P w K mg base "refuse_no_top" 1 (spRefTopE Z.c_NoBox) := by
  refine Def.okE D sc_refuse_no_top bd_refuse_no_top (fun vs H Q E h => ?len) (fun f cdv A outer s H vs Q E hr h => ?body)
  case len => obtain ⟨top, rfl, _⟩ := h; rfl
  case body =>
    obtain ⟨top, rfl, k1, k2⟩ := h
    refine ⟨_, (pss_one (ps_if (pt_not (pt_chain op_le op_le pe_int (pv 0) (pe_globI T.g_MOST_TOP (by rfl))))
 (pss_one (ps_raise Z.exc_NoBox PySem.F.excBase_ValueError (by rfl) (pa_cons pe_str pa_nil)))
 pss_nil)), ?_⟩
    dsimp only [tSeq, tAsg, gName, tOp, tUn, tTest, tB, tAnd, tOr, tNot, tAndV, tOrV, tNotV, tIf, tIfS, tRet, tRetN, tDrop, tNext, tCons, tNil, tCB, tCall, tMenu, tComp, tComp2, msk, List.zipWith, tMakeS, iZip2, iEnum, tNoIf, tTru, tJoin, cxOf_K, tLst, tTup, tSl, tPart, tNoPart, tBM, tBM0, tChain, tC, tFor_eq, gTup, gCons, gNil, gSub, iList, iRng1, iRng2, iRng3, iTup, tWhile, tRev, tFld, sFld, tMeth, tMethS, tMake, tRaise, tCallS, tTry, tAug, tPar, tNever, ipI, List.append_nil]
    walk_at "st"
    refine i_if (fun g1 => ?_) (fun g1 => ?_)
    · walk_at "st"
      refine i_ifn (fun g2 => ?_) (fun g2 => ?_)
      · walk_at "st"
        exact ⟨by simp, k2 fun z => g2 z.2⟩
      · walk_at "st"
        exact k1 ⟨g1, g2⟩
    · walk_at "st"
      exact ⟨by simp, k2 fun z => g1 z.1⟩
def spRefPlaceE (CP : Addr) : Sp := fun vs H Q E => ∃ top c : Int, vs = [.int top, .int c] ∧ (0 ≤ c ∧ c ≤ top → Q .non H) ∧ (¬ (0 ≤ c ∧ c ≤ top) → E (.ref CP) none H)
theorem ok_refuse_no_place (T : Txt mg) (Z : Cls K mg) (D : Def K mg "refuse_no_place" s_refuse_no_place) : CalleeE P w K mg base "refuse_no_place" 1 (spRefPlaceE Z.c_NoPlace) := by
  refine Def.okE D sc_refuse_no_place bd_refuse_no_place (fun vs H Q E h => ?len) (fun f cdv A outer s H vs Q E hr h => ?body)
  case len => obtain ⟨top, c, rfl, _⟩ := h; rfl
  case body =>
    obtain ⟨top, c, rfl, k1, k2⟩ := h
    refine ⟨_, (pss_one (ps_if (pt_not (pt_chain op_le op_le pe_int (pv 1) (pv 0)))
 (pss_one (ps_raise Z.exc_NoPlace PySem.F.excBase_ValueError (by rfl) (pa_cons pe_str pa_nil)))
 pss_nil)), ?_⟩
    dsimp only [tSeq, tAsg, gName, tOp, tUn, tTest, tB, tAnd, tOr, tNot, tAndV, tOrV, tNotV, tIf, tIfS, tRet, tRetN, tDrop, tNext, tCons, tNil, tCB, tCall, tMenu, tComp, tComp2, msk, List.zipWith, tMakeS, iZip2, iEnum, tNoIf, tTru, tJoin, cxOf_K, tLst, tTup, tSl, tPart, tNoPart, tBM, tBM0, tChain, tC, tFor_eq, gTup, gCons, gNil, gSub, iList, iRng1, iRng2, iRng3, iTup, tWhile, tRev, tFld, sFld, tMeth, tMethS, tMake, tRaise, tCallS, tTry, tAug, tPar, tNever, ipI, List.append_nil]
    walk_at "st"
    refine i_if (fun g1 => ?_) (fun g1 => ?_)
    · walk_at "st"
      refine i_ifn (fun g2 => ?_) (fun g2 => ?_)
      · walk_at "st"
        exact ⟨by simp, k2 fun z => g2 z.2⟩
      · walk_at "st"
        exact k1 ⟨g1, g2⟩
    · walk_at "st"
      exact ⟨by simp, k2 fun z => g1 z.1⟩

def spSwInitE (C XS : Addr) : Sp := fun vs H Q E => ∃ (p dx : Addr) (lo hi : Int), vs = [.ref p, .int lo, .int hi] ∧ H p = some (.ins C dx []) ∧ (0 ≤ lo ∧ lo < hi → Q .non (upd H p (.ins C dx (sfl lo hi false)))) ∧ (¬ (0 ≤ lo ∧ lo < hi) → E (.ref XS) none H)
theorem ok_Switch___init__ (T : Txt mg) (Z : Cls K mg) (Y : Own K mg) (D : DefM K Y.c_Switch "__init__" "Switch.__init__" s_Switch___init__) : CalleeM (CXE P w) P w K mg base Y.c_Switch "__init__" 1 (spSwInitE Y.c_Switch Z.c_NoSwitch) := by
  refine DefM.okE D sc_Switch___init__ bd_Switch___init__ (fun vs H Q E h => ?len) (fun f cdv A outer s H vs Q E hr h => ?body)
  case len => obtain ⟨p, dx, lo, hi, rfl, _⟩ := h; rfl
  case body =>
    obtain ⟨p, dx, lo, hi, rfl, hp, k, kx⟩ := h
    have hu := hr.units
    refine ⟨_, (pss_cons (ps_if (PW.pt (pw_or (pt_cmpR op_lt (pv 1) pe_int (nomark _)) (pw_or1 (pt_cmpR op_le (pv 2) (pv 1) (nomark _)))))
 (pss_one (ps_raise Z.exc_NoSwitch PySem.F.excBase_ValueError (by rfl) (pa_cons pe_str pa_nil)))
 pss_nil)
 (pss_cons (ps_fldK K (pv 0) (pv 1) rfl)
 (pss_cons (ps_fldK K (pv 0) (pv 2) rfl)
 (pss_one (ps_fldK K (pv 0) pe_bl rfl))))), ?_⟩
    dsimp only [tSeq, tAsg, gName, tOp, tUn, tTest, tB, tAnd, tOr, tNot, tAndV, tOrV, tNotV, tIf, tIfS, tRet, tRetN, tDrop, tNext, tCons, tNil, tCB, tCall, tMenu, tComp, tComp2, msk, List.zipWith, tMakeS, iZip2, iEnum, tNoIf, tTru, tJoin, cxOf_K, tLst, tTup, tSl, tPart, tNoPart, tBM, tBM0, tChain, tC, tFor_eq, gTup, gCons, gNil, gSub, iList, iRng1, iRng2, iRng3, iTup, tWhile, tRev, tFld, sFld, tMeth, tMethS, tMake, tRaise, tCallS, tTry, tAug, tPar, tNever, ipI, List.append_nil]
    walk_at "st"
    refine i_if (fun g => ?_) (fun g1 => ?_)
    · walk_at "st"
      exact ⟨by simp, kx (by omega)⟩
    walk_at "st"
    refine i_if (fun g => ?_) (fun g2 => ?_)
    · walk_at "st"
      exact ⟨by simp, kx (by omega)⟩
    walk_at "st"
    refine ⟨p, _, dx, _, rfl, hp, Y.cl_Switch, Y.na_Switch_low, by simp, ?_⟩
    walk_at "st"
    refine ⟨p, _, dx, _, rfl, upd_same, Y.cl_Switch, Y.na_Switch_high, by have := putF_le "low" (.int lo) ([] : List (Str × V)); simp at this; omega, ?_⟩
    walk_at "st"
    refine ⟨p, _, dx, _, rfl, upd_same, Y.cl_Switch, Y.na_Switch_is_on, by have := putF_le "low" (.int lo) ([] : List (Str × V)); have h2 := putF_le "high" (.int hi) (putF "low" (.int lo) []); simp at this; omega, ?_⟩
    rw [upd_upd, upd_upd]
    exact k ⟨by omega, by omega⟩

def stp (c : Int) (s : Int × Int × Bool) : Int × Int × Bool := (s.1, s.2.1, if s.2.1 ≤ c then true else if c ≤ s.1 then false else s.2.2)
/-- all else stays -/
def But (q : Addr) (H H' : Hp) : Prop := ∀ b o, H b = some o → b ≠ q → H' b = some o
def spSwTurn (C : Addr) : Sp := fun vs H Q _ => ∃ (q : Addr) (c : Int) (s : Int × Int × Bool), vs = [.ref q, .int c] ∧ SwAt C H q s ∧ ∀ H', SwAt C H' q (stp c s) → But q H H' → Q .non H'
theorem ok_Switch_turn (T : Txt mg) (Y : Own K mg) (D : DefM K Y.c_Switch "turn" "Switch.turn" s_Switch_turn) : CalleeM CX0 P w K mg base Y.c_Switch "turn" 1 (spSwTurn Y.c_Switch) := by
  refine DefM.ok D sc_Switch_turn bd_Switch_turn (fun vs H Q E h => ?len) (fun f cdv A outer s H vs Q E hr h => ?body)
  case len => obtain ⟨q, c, s, rfl, _⟩ := h; rfl
  case body =>
    obtain ⟨q, c, ⟨lo, hi, on⟩, rfl, ⟨dx, hq⟩, k⟩ := h
    refine ⟨_, (pss_one (ps_if (pt_cmpR op_ge (pv 1) (pe_fldK K (pv 0) (by rfl)) (nomark _))
 (pss_one (ps_fldK K (pv 0) pe_bl rfl))
 (pss_one (ps_if (pt_cmpR op_le (pv 1) (pe_fldK K (pv 0) (by rfl)) (nomark _))
 (pss_one (ps_fldK K (pv 0) pe_bl rfl))
 pss_nil)))), ?_⟩
    dsimp only [tSeq, tAsg, gName, tOp, tUn, tTest, tB, tAnd, tOr, tNot, tAndV, tOrV, tNotV, tIf, tIfS, tRet, tRetN, tDrop, tNext, tCons, tNil, tCB, tCall, tMenu, tComp, tComp2, msk, List.zipWith, tMakeS, iZip2, iEnum, tNoIf, tTru, tJoin, cxOf_K, tLst, tTup, tSl, tPart, tNoPart, tBM, tBM0, tChain, tC, tFor_eq, gTup, gCons, gNil, gSub, iList, iRng1, iRng2, iRng3, iTup, tWhile, tRev, tFld, sFld, tMeth, tMethS, tMake, tRaise, tCallS, tTry, tAug, tPar, tNever, ipI, List.append_nil]
    simp only at hq
    walk_at "st"
    refine ⟨q, _, dx, _, _, rfl, hq, Y.cl_Switch, Y.na_Switch_high, sfl_high _ _ _, ?_⟩
    walk_at "st"
    refine i_if (fun g => ?_) (fun g => ?_)
    · walk_at "st"
      refine ⟨q, _, dx, _, rfl, hq, Y.cl_Switch, Y.na_Switch_is_on, sfl_len _ _ _, ?_⟩
      rw [sfl_put]
      refine k _ ⟨dx, ?_⟩ (fun b o e n => by rw [upd_ne n]; exact e)
      rw [upd_same]
      simp only [stp]
      rw [if_pos g]
    · walk_at "st"
      refine ⟨q, _, dx, _, _, rfl, hq, Y.cl_Switch, Y.na_Switch_low, sfl_low _ _ _, ?_⟩
      walk_at "st"
      refine i_if (fun g2 => ?_) (fun g2 => ?_)
      · walk_at "st"
        refine ⟨q, _, dx, _, rfl, hq, Y.cl_Switch, Y.na_Switch_is_on, sfl_len _ _ _, ?_⟩
        rw [sfl_put]
        refine k _ ⟨dx, ?_⟩ (fun b o e n => by rw [upd_ne n]; exact e)
        rw [upd_same]
        simp only [stp]
        rw [if_neg g, if_pos g2]
      · refine k _ ⟨dx, ?_⟩ (fun b o e n => e)
        rw [hq]
        simp only [stp]
        rw [if_neg g, if_neg g2]
def spSwOn (C : Addr) : Sp := fun vs H Q _ => ∃ (q : Addr) (s : Int × Int × Bool), vs = [.ref q] ∧ SwAt C H q s ∧ Q (.bl s.2.2) H
theorem ok_Switch_on (T : Txt mg) (Y : Own K mg) (D : DefM K Y.c_Switch "on" "Switch.on" s_Switch_on) : CalleeM CX0 P w K mg base Y.c_Switch "on" 1 (spSwOn Y.c_Switch) := by
  refine DefM.ok D sc_Switch_on bd_Switch_on (fun vs H Q E h => ?len) (fun f cdv A outer s H vs Q E hr h => ?body)
  case len => obtain ⟨q, s, rfl, _⟩ := h; rfl
  case body =>
    obtain ⟨q, ⟨lo, hi, on⟩, rfl, ⟨dx, hq⟩, k⟩ := h
    refine ⟨_, (pss_one (ps_ret (pe_fldK K (pv 0) (by rfl)))), ?_⟩
    dsimp only [tSeq, tAsg, gName, tOp, tUn, tTest, tB, tAnd, tOr, tNot, tAndV, tOrV, tNotV, tIf, tIfS, tRet, tRetN, tDrop, tNext, tCons, tNil, tCB, tCall, tMenu, tComp, tComp2, msk, List.zipWith, tMakeS, iZip2, iEnum, tNoIf, tTru, tJoin, cxOf_K, tLst, tTup, tSl, tPart, tNoPart, tBM, tBM0, tChain, tC, tFor_eq, gTup, gCons, gNil, gSub, iList, iRng1, iRng2, iRng3, iTup, tWhile, tRev, tFld, sFld, tMeth, tMethS, tMake, tRaise, tCallS, tTry, tAug, tPar, tNever, ipI, List.append_nil]
    simp only at hq
    walk_at "st"
    exact ⟨q, _, dx, _, _, rfl, hq, Y.cl_Switch, Y.na_Switch_is_on, sfl_on _ _ _, k⟩

def spWithinE (C XS : Addr) : Sp := fun vs H Q E => ∃ (top lo hi : Int), vs = [.int top, .int lo, .int hi] ∧ (0 ≤ lo ∧ lo < hi ∧ hi ≤ top → ∀ q H', H q = none → Same H H' → SwAt C H' q (lo, hi, false) → Q (.ref q) H') ∧ (¬ (0 ≤ lo ∧ lo < hi ∧ hi ≤ top) → ∀ H', Same H H' → E (.ref XS) none H')
theorem ok_switch_within (T : Txt mg) (Z : Cls K mg) (Y : Own K mg) (D : Def K mg "switch_within" s_switch_within) (C_Switch : CalleeC (CXE P w) P w K mg base Y.c_Switch "Switch" 1 (spSwInitE Y.c_Switch Z.c_NoSwitch)) : CalleeE P w K mg base "switch_within" 3 (spWithinE Y.c_Switch Z.c_NoSwitch) := by
  refine Def.okE D sc_switch_within bd_switch_within (fun vs H Q E h => ?len) (fun f cdv A outer s H vs Q E hr h => ?body)
  case len => obtain ⟨top, lo, hi, rfl, _⟩ := h; rfl
  case body =>
    obtain ⟨top, lo, hi, rfl, k, kx⟩ := h
    refine ⟨_, (pss_cons (ps_if (pt_cmpR op_gt (pv 2) (pv 0) (nomark _))
 (pss_one (ps_raise Z.exc_NoSwitch PySem.F.excBase_ValueError (by rfl) (pa_cons pe_str pa_nil)))
 pss_nil)
 (pss_one (ps_ret (pe_makeE C_Switch (hr.mono (by decide)) (by rfl) (pa_cons (pv 1) (pa_cons (pv 2) pa_nil)))))), ?_⟩
    dsimp only [tSeq, tAsg, gName, tOp, tUn, tTest, tB, tAnd, tOr, tNot, tAndV, tOrV, tNotV, tIf, tIfS, tRet, tRetN, tDrop, tNext, tCons, tNil, tCB, tCall, tMenu, tComp, tComp2, msk, List.zipWith, tMakeS, iZip2, iEnum, tNoIf, tTru, tJoin, cxOf_K, tLst, tTup, tSl, tPart, tNoPart, tBM, tBM0, tChain, tC, tFor_eq, gTup, gCons, gNil, gSub, iList, iRng1, iRng2, iRng3, iTup, tWhile, tRev, tFld, sFld, tMeth, tMethS, tMake, tRaise, tCallS, tTry, tAug, tPar, tNever, ipI, List.append_nil]
    walk_at "st"
    refine i_if (fun g => ?_) (fun g1 => ?_)
    · walk_at "st"
      exact ⟨by simp, kx (by omega) _ (Same.refl _)⟩
    walk_at "st"
    intro x dx nx ndx nex
    have s1 : Same H (upd H dx (.own x)) := same_upd ndx
    have nx1 : upd H dx (.own x) x = none := by rw [upd_ne (Ne.symm nex)]; exact nx
    refine ⟨x, dx, lo, hi, rfl, upd_same, fun hv => ⟨rfl, ?_⟩, fun hn => kx (by omega) _ (s1.trans (same_upd nx1))⟩
    rw [upd_upd]
    exact k (by omega) x _ nx (s1.trans (same_upd nx1)) ⟨dx, upd_same⟩

--SPLIT
abbrev Sw := Int × Int × Int
def SwT (H : Hp) (ts : List Addr) (sws : List Sw) : Prop := Paired (fun t (s : Sw) => H t = some (.tup [.int s.1, .int s.2.1, .int s.2.2])) ts sws
theorem SwT.more {H H' : Hp} {ts : List Addr} {sws : List Sw} (h : SwT H ts sws) (s : Same H H') : SwT H' ts sws := Paired.mapP h fun _ _ e => s _ _ e
def bfl (top : Int) (ls lw : Addr) (at_ : Int) : List (Str × V) := putF "at" (.int at_) (putF "weights" (.ref lw) (putF "switches" (.ref ls) (putF "top" (.int top) [])))
theorem bfl_weights (top : Int) (ls lw : Addr) (at_ : Int) : (bfl top ls lw at_).lookup ("weights" : Str) = some (.ref lw) := by unfold bfl; rw [lookup_putF, if_neg (by decide +kernel), lookup_putF, if_pos rfl]
theorem bfl_switches (top : Int) (ls lw : Addr) (at_ : Int) : (bfl top ls lw at_).lookup ("switches" : Str) = some (.ref ls) := by unfold bfl; rw [lookup_putF, if_neg (by decide +kernel), lookup_putF, if_neg (by decide +kernel), lookup_putF, if_pos rfl]
theorem bfl_top (top : Int) (ls lw : Addr) (at_ : Int) : (bfl top ls lw at_).lookup ("top" : Str) = some (.int top) := by unfold bfl; rw [lookup_putF, if_neg (by decide +kernel), lookup_putF, if_neg (by decide +kernel), lookup_putF, if_neg (by decide +kernel), lookup_putF, if_pos rfl]
theorem bfl_no (top : Int) (ls lw : Addr) (at_ : Int) {m : Str} (h1 : ¬ m = "at") (h2 : ¬ m = "weights") (h3 : ¬ m = "switches") (h4 : ¬ m = "top") : (bfl top ls lw at_).lookup m = none := by
  unfold bfl
  rw [lookup_putF, if_neg h1, lookup_putF, if_neg h2, lookup_putF, if_neg h3, lookup_putF, if_neg h4]
  rfl
theorem bfl_len (top : Int) (ls lw : Addr) (at_ : Int) : (bfl top ls lw at_).length < 1000 := by
  unfold bfl
  have a := putF_le "at" (.int at_) (putF "weights" (.ref lw) (putF "switches" (.ref ls) (putF "top" (.int top) [])))
  have b := putF_le "weights" (.ref lw) (putF "switches" (.ref ls) (putF "top" (.int top) []))
  have c := putF_le "switches" (.ref ls) (putF "top" (.int top) [])
  have d := putF_le "top" (.int top) ([] : List (Str × V))
  simp at d
  omega
theorem bfl_put (top : Int) (ls lw : Addr) (at_ a2 : Int) : putF "at" (.int a2) (bfl top ls lw at_) = bfl top ls lw a2 := putF_put _ _ _ _
/-- a box stands at p -/
structure BoxAt (CB CS : Addr) (H : Hp) (p : Addr) (top : Int) (ls lw : Addr) (qs : List Addr) (ws : List Int) (at_ : Int) (st : List (Int × Int × Bool)) : Prop where
  ob : ∃ dx, H p = some (.ins CB dx (bfl top ls lw at_))
  sl : H ls = some (.lst (qs.map V.ref))
  wl : H lw = some (.lst (iL ws))
  it : Paired (SwAt CS H) qs st
  nd : qs.Nodup
theorem BoxAt.more {CB CS : Addr} {H H' : Hp} {p : Addr} {top : Int} {ls lw : Addr} {qs : List Addr} {ws : List Int} {at_ : Int} {st : List (Int × Int × Bool)} (B : BoxAt CB CS H p top ls lw qs ws at_ st) (s : Same H H') : BoxAt CB CS H' p top ls lw qs ws at_ st :=
  ⟨B.ob.elim fun dx e => ⟨dx, s _ _ e⟩, s _ _ B.sl, s _ _ B.wl, Paired.mapP B.it fun _ _ ⟨dx, e⟩ => ⟨dx, s _ _ e⟩, B.nd⟩

def spBoxInit (CB CS : Addr) : Sp := fun vs H Q _ => ∃ (p dx a : Addr) (ts : List Addr) (sws : List Sw) (top : Int), vs = [.ref p, .int top, .ref a] ∧ H p = some (.ins CB dx []) ∧ H a = some (.lst (ts.map V.ref)) ∧ SwT H ts sws ∧ sws.length ≤ 1000 ∧ 1 ≤ top ∧ top ≤ 16 ∧ (∀ s ∈ sws, 0 ≤ s.1 ∧ s.1 < s.2.1 ∧ s.2.1 ≤ top) ∧
  ∀ H' ls lw qs, BoxAt CB CS H' p top ls lw qs (sws.map (·.2.2)) 0 (sws.map fun s => (s.1, s.2.1, false)) → H ls = none → H lw = none → (∀ q ∈ qs, H q = none) → But p H H' → Q .non H'
theorem swt_get {H : Hp} {ts : List Addr} {sws : List Sw} (h : SwT H ts sws) {i : Nat} {t : Addr} (e : ts[i]? = some t) : ∃ s, sws[i]? = some s ∧ H t = some (.tup [.int s.1, .int s.2.1, .int s.2.2]) := by
  have go : ∀ {as : List Addr} {bs : List Sw} {i : Nat} {a : Addr}, Paired (fun t (s : Sw) => H t = some (.tup [.int s.1, .int s.2.1, .int s.2.2])) as bs → as[i]? = some a → ∃ b, bs[i]? = some b ∧ H a = some (.tup [.int b.1, .int b.2.1, .int b.2.2]) := by
    intro as bs i a p
    induction p generalizing i with
    | nil => intro z; simp at z
    | cons r _ ih =>
      intro z
      cases i with
      | zero => simp at z; subst z; exact ⟨_, rfl, r⟩
      | succ i => exact ih (i := i) (by simpa using z)
  exact go h e
theorem paired_all {α β : Type} {F : α → β → Prop} : ∀ {as : List α} {bs : List β} {a : α}, Paired F as bs → a ∈ as → ∃ b, F a b
  | _, _, a, .nil, h => by simp at h
  | _, _, a, .cons r t, h => by
    rcases List.mem_cons.mp h with e | e
    · subst e; exact ⟨_, r⟩
    · exact paired_all t e

def spBoxInitE (CB CS XB XS : Addr) : Sp := fun vs H Q E => ∃ (p dx a : Addr) (ts : List Addr) (sws : List Sw) (top : Int), vs = [.ref p, .int top, .ref a] ∧ H p = some (.ins CB dx []) ∧ H a = some (.lst (ts.map V.ref)) ∧ SwT H ts sws ∧ sws.length ≤ 1000 ∧
  (okTop top → (∀ s ∈ sws, okS top s) → ∀ H' ls lw qs, BoxAt CB CS H' p top ls lw qs (sws.map (·.2.2)) 0 (sws.map fun s => (s.1, s.2.1, false)) → H ls = none → H lw = none → (∀ q ∈ qs, H q = none) → But p H H' → Q .non H') ∧ (¬ okTop top → ∀ H', But p H H' → E (.ref XB) none H') ∧ (okTop top → ¬ (∀ s ∈ sws, okS top s) → ∀ H', But p H H' → E (.ref XS) none H')
theorem ok_Box___init__ (T : Txt mg) (Z : Cls K mg) (Y : Own K mg) (D : DefM K Y.c_Box "__init__" "Box.__init__" s_Box___init__) (C_refuse_no_top : CalleeE P w K mg base "refuse_no_top" 1 (spRefTopE Z.c_NoBox)) (C_switch_within : CalleeE P w K mg base "switch_within" 3 (spWithinE Y.c_Switch Z.c_NoSwitch)) : CalleeM (CXE P w) P w K mg base Y.c_Box "__init__" 4 (spBoxInitE Y.c_Box Y.c_Switch Z.c_NoBox Z.c_NoSwitch) := by
  refine DefM.okE D sc_Box___init__ bd_Box___init__ (fun vs H Q E h => ?len) (fun f cdv A outer s H vs Q E hr h => ?body)
  case len => obtain ⟨p, dx, a, ts, sws, top, rfl, _⟩ := h; rfl
  case body =>
    obtain ⟨p, dx, a, ts, sws, top, rfl, hp, hA, hT, hl, k, kb, kx⟩ := h
    have htl : ts.length = sws.length := hT.length
    have hpa : a ≠ p := fun z => by rw [z, hp] at hA; cases hA
    refine ⟨_, (pss_cons (ps_expr (pe_callE C_refuse_no_top (hr.mono (by decide)) (by rfl) (pa_cons (pv 1) pa_nil)))
 (pss_cons (ps_fldK K (pv 0) (pv 1) rfl)
 (pss_cons (ps_fldK K (pv 0) (by exact pe_compE (N := ["low", "high", "weight", "top"]) (fr := [none, none, none, some 1]) ⟨by rfl, by decide +kernel, by decide +kernel, (show ∀ y ∈ (_ : List (Str × NameKind)), y.2 = NameKind.free → (defScope s_Box___init__).names.lookup y.1 = some .cell ∨ (defScope s_Box___init__).names.lookup y.1 = some .free by decide +kernel), (fr_none (fr_none (fr_none (fr_some (by rfl) (by first | exact Or.inl rfl | exact Or.inr rfl) (by rfl) fr_nil))))⟩ (by rfl) (pi_listK K (pv 2)) (fun _ _ _ _ => (pg_tupK K 3 (pgs_cons (pg_name (i := 0) (show List.Nodup (["low", "high", "weight", "top"] : List Str) by decide) (by rfl) (by first | exact Or.inl rfl | exact Or.inr rfl)) (pgs_cons (pg_name (i := 1) (show List.Nodup (["low", "high", "weight", "top"] : List Str) by decide) (by rfl) (by first | exact Or.inl rfl | exact Or.inr rfl)) (pgs_cons (pg_name (i := 2) (show List.Nodup (["low", "high", "weight", "top"] : List Str) by decide) (by rfl) (by first | exact Or.inl rfl | exact Or.inr rfl)) pgs_nil))))) (fun _ _ _ _ hx => pifs_nil) (fun _ _ _ _ hx => (pe_callEB C_switch_within hx (hr.mono (by decide)) (by rfl) (pa_cons (pv 3) (pa_cons (pv 0) (pa_cons (pv 1) pa_nil))))) (gw_tup (gws_cons (gw_name (by rfl)) (gws_cons (gw_name (by rfl)) (gws_cons (gw_name (by rfl)) gws_nil))))) rfl)
 (pss_cons (ps_fldK K (pv 0) (by exact pe_comp (N := ["low", "high", "weight"]) (fr := [none, none, none]) ⟨by rfl, by decide +kernel, by decide +kernel, (show ∀ y ∈ (_ : List (Str × NameKind)), y.2 = NameKind.free → (defScope s_Box___init__).names.lookup y.1 = some .cell ∨ (defScope s_Box___init__).names.lookup y.1 = some .free by decide +kernel), (fr_none (fr_none (fr_none fr_nil)))⟩ (by rfl) (pi_listK K (pv 2)) (fun _ _ _ _ => (pg_tupK K 3 (pgs_cons (pg_name (i := 0) (show List.Nodup (["low", "high", "weight"] : List Str) by decide) (by rfl) (by first | exact Or.inl rfl | exact Or.inr rfl)) (pgs_cons (pg_name (i := 1) (show List.Nodup (["low", "high", "weight"] : List Str) by decide) (by rfl) (by first | exact Or.inl rfl | exact Or.inr rfl)) (pgs_cons (pg_name (i := 2) (show List.Nodup (["low", "high", "weight"] : List Str) by decide) (by rfl) (by first | exact Or.inl rfl | exact Or.inr rfl)) pgs_nil))))) (fun _ _ _ _ => pifs_nil) (fun _ _ _ _ => (pv 2)) (gw_tup (gws_cons (gw_name (by rfl)) (gws_cons (gw_name (by rfl)) (gws_cons (gw_name (by rfl)) gws_nil))))) rfl)
 (pss_one (ps_fldK K (pv 0) pe_int rfl)))))), ?_⟩
    dsimp only [tSeq, tAsg, gName, tOp, tUn, tTest, tB, tAnd, tOr, tNot, tAndV, tOrV, tNotV, tIf, tIfS, tRet, tRetN, tDrop, tNext, tCons, tNil, tCB, tCall, tMenu, tComp, tComp2, msk, List.zipWith, tMakeS, iZip2, iEnum, tNoIf, tTru, tJoin, cxOf_K, tLst, tTup, tSl, tPart, tNoPart, tBM, tBM0, tChain, tC, tFor_eq, gTup, gCons, gNil, gSub, iList, iRng1, iRng2, iRng3, iTup, tWhile, tRev, tFld, sFld, tMeth, tMethS, tMake, tRaise, tCallS, tTry, tAug, tPar, tNever, ipI, List.append_nil]
    walk_at "st"
    refine ⟨top, rfl, fun hT0 => ?_, fun hn => kb hn _ (fun b o e _ => e)⟩
    walk_at "st"
    refine ⟨p, _, dx, _, rfl, hp, Y.cl_Box, Y.na_Box_top, by simp, ?_⟩
    have keep1 : But p H (upd H p (.ins Y.c_Box dx (putF "top" (.int top) []))) := fun b o e n => by rw [upd_ne n]; exact e
    have ep1 : upd H p (.ins Y.c_Box dx (putF "top" (.int top) [])) p = some (.ins Y.c_Box dx (putF "top" (.int top) [])) := upd_same
    have free1 : ∀ b, upd H p (.ins Y.c_Box dx (putF "top" (.int top) [])) b = none → H b = none := fun b e => by
      by_cases z : b = p
      · subst z; rw [upd_same] at e; cases e
      · rw [upd_ne z] at e; exact e
    have hA1 := keep1 _ _ hA hpa
    have hT1 : SwT (upd H p (.ins Y.c_Box dx (putF "top" (.int top) []))) ts sws := Paired.mapP hT fun t s e => keep1 _ _ e fun z => by rw [z, hp] at e; cases e
    generalize upd H p (.ins Y.c_Box dx (putF "top" (.int top) [])) = H1 at *
    walk_at "st"
    refine ⟨⟨_, SqL.of hA1⟩, cp_list (xs := ts.map V.ref) (fun i ys H2 => ∃ qs : List Addr, ys = qs.map V.ref ∧ qs.length = i ∧ Same H1 H2 ∧ Paired (SwAt Y.c_Switch H2) qs ((sws.take i).map fun s => (s.1, s.2.1, false)) ∧ qs.Nodup ∧ (∀ q ∈ qs, H1 q = none) ∧ ∀ s ∈ sws.take i, okS top s) ⟨[], rfl, rfl, Same.refl _, .nil, by simp, by simp, by simp⟩ ?_ (szlt (by simp; omega)) ?_ ?_⟩
    · rintro i ys H2 ⟨qs, rfl, hq, sm, _⟩
      exact ⟨SqL.of (sm _ _ hA1), by simp; omega⟩
    · rintro i x ys H2 hx ⟨qs, rfl, hq, sm, hP, hn, hf, hok⟩
      rw [List.getElem?_map] at hx
      obtain ⟨t, hti, rfl⟩ := Option.map_eq_some_iff.mp hx
      obtain ⟨s, hsi, hTs⟩ := swt_get hT1 hti
      walk_at "st"
      refine ⟨_, _, rfl, SqT.of (sm _ _ hTs), rfl, _, _, rfl, _, _, rfl, _, _, rfl, rfl, ?_⟩
      walk_at "st"
      refine ⟨top, s.1, s.2.1, rfl, fun hs q H3 hq3 s3 h3 => ?_, fun hs H3 s3 => kx hT0 (fun z => hs (z s (List.mem_of_getElem? hsi))) H3 fun b o e n => (sm.trans s3) _ _ (keep1 b o e n)⟩
      refine ⟨qs ++ [q], by simp, by simp; omega, sm.trans s3, ?_, ?_, ?_, ?_⟩
      · rw [take_snoc_get hsi, List.map_append]
        exact Paired.snoc (Paired.mapP hP fun _ _ ⟨d, e⟩ => ⟨d, s3 _ _ e⟩) h3
      · rw [List.nodup_append]
        refine ⟨hn, by simp, fun z hz y hy => ?_⟩
        simp at hy
        subst hy
        intro e
        subst e
        obtain ⟨_, d, e⟩ := paired_all hP hz
        rw [hq3] at e
        cases e
      · intro z hz
        rcases List.mem_append.mp hz with y | y
        · exact hf z y
        · simp at y; subst y; exact sm.free hq3
      · intro z hz
        rw [take_snoc_get hsi] at hz
        rcases List.mem_append.mp hz with y | y
        · exact hok z y
        · simp at y; subst y; exact hs
    rintro ls ys H2 ⟨qs, rfl, hq, sm2, hP2, hn, hf, hok⟩ hls
    rw [List.take_of_length_le (by simp; omega)] at hP2 hok
    have k := k hT0 hok
    have s3 : Same H1 _ := sm2.trans (same_upd (o := .lst (qs.map V.ref)) hls)
    have e3 : upd H2 ls (.lst (qs.map V.ref)) ls = some (.lst (qs.map V.ref)) := upd_same
    have hP3 : Paired (SwAt Y.c_Switch (upd H2 ls (.lst (qs.map V.ref)))) qs (sws.map fun s => (s.1, s.2.1, false)) := Paired.mapP hP2 fun _ _ ⟨d, e⟩ => ⟨d, same_upd hls _ _ e⟩
    have fls : H1 ls = none := sm2.free hls
    generalize upd H2 ls (.lst (qs.map V.ref)) = H3 at *
    clear hP2 sm2 hls
    walk_at "st"
    have ep3 := s3 _ _ ep1
    refine ⟨p, _, dx, _, rfl, ep3, Y.cl_Box, Y.na_Box_switches, by have := putF_le "top" (.int top) ([] : List (Str × V)); simp at this; omega, ?_⟩
    have nlsp : ls ≠ p := fun z => by rw [z, ep1] at fls; cases fls
    have nqp : ∀ q ∈ qs, q ≠ p := fun q hq z => by have := hf q hq; rw [z, ep1] at this; cases this
    have keep4 : But p H (upd H3 p (.ins Y.c_Box dx (putF "switches" (.ref ls) (putF "top" (.int top) [])))) := fun b o e n => by rw [upd_ne n]; exact s3 _ _ (keep1 _ _ e n)
    have ep4 : upd H3 p (.ins Y.c_Box dx (putF "switches" (.ref ls) (putF "top" (.int top) []))) p = some (.ins Y.c_Box dx (putF "switches" (.ref ls) (putF "top" (.int top) []))) := upd_same
    have e4 : upd H3 p (.ins Y.c_Box dx (putF "switches" (.ref ls) (putF "top" (.int top) []))) ls = some (.lst (qs.map V.ref)) := by rw [upd_ne nlsp]; exact e3
    have hP4 : Paired (SwAt Y.c_Switch (upd H3 p (.ins Y.c_Box dx (putF "switches" (.ref ls) (putF "top" (.int top) []))))) qs (sws.map fun s => (s.1, s.2.1, false)) := by
      have go : ∀ {as : List Addr} {bs : List (Int × Int × Bool)}, (∀ q ∈ as, q ≠ p) → Paired (SwAt Y.c_Switch H3) as bs → Paired (SwAt Y.c_Switch (upd H3 p (.ins Y.c_Box dx (putF "switches" (.ref ls) (putF "top" (.int top) []))))) as bs := by
        intro as bs hn pr
        induction pr with
        | nil => exact .nil
        | cons r _ ih =>
          refine .cons ?_ (ih fun q hq => hn q (List.mem_cons_of_mem _ hq))
          obtain ⟨d, e⟩ := r
          exact ⟨d, by rw [upd_ne (hn _ List.mem_cons_self)]; exact e⟩
      exact go nqp hP3
    have free4 : ∀ b, upd H3 p (.ins Y.c_Box dx (putF "switches" (.ref ls) (putF "top" (.int top) []))) b = none → H b = none := fun b e => by
      by_cases z : b = p
      · subst z; rw [upd_same] at e; cases e
      · rw [upd_ne z] at e; exact free1 _ (s3.free e)
    generalize upd H3 p (.ins Y.c_Box dx (putF "switches" (.ref ls) (putF "top" (.int top) []))) = H4 at *
    have hA4 := keep4 _ _ hA hpa
    have hT4 : SwT H4 ts sws := Paired.mapP hT fun t s e => keep4 _ _ e fun z => by rw [z, hp] at e; cases e
    walk_at "st"
    refine ⟨⟨_, SqL.of hA4⟩, cp_list (xs := ts.map V.ref) (fun i ys H5 => ys = iL ((sws.map (·.2.2)).take i) ∧ i ≤ ts.length ∧ H4 = H5) ⟨by simp, Nat.zero_le _, rfl⟩ ?_ (szlt (by simp; omega)) ?_ ?_⟩
    · rintro i ys H5 ⟨rfl, hi, rfl⟩
      exact ⟨SqL.of hA4, by simp [iL]; omega⟩
    · rintro i x ys H5 hx ⟨rfl, hi, rfl⟩
      rw [List.getElem?_map] at hx
      obtain ⟨t, hti, rfl⟩ := Option.map_eq_some_iff.mp hx
      obtain ⟨s, hsi, hTs⟩ := swt_get hT4 hti
      have hil : i < ts.length := (List.getElem?_eq_some_iff.mp hti).1
      walk_at "st"
      refine ⟨_, _, rfl, SqT.of hTs, rfl, _, _, rfl, _, _, rfl, _, _, rfl, rfl, ?_⟩
      walk_at "st"
      refine ⟨?_, by omega, rfl⟩
      have : (sws.map (·.2.2))[i]? = some s.2.2 := by rw [List.getElem?_map, hsi]; rfl
      rw [List.take_add_one, this]
      simp [iL]
    rintro lw ys H5 ⟨rfl, hi, rfl⟩ hlw
    rw [List.take_of_length_le (by simp; omega)]
    have s5 : Same H4 _ := same_upd (o := .lst (iL (sws.map (·.2.2)))) hlw
    have e5 : upd H4 lw (.lst (iL (sws.map (·.2.2)))) lw = some (.lst (iL (sws.map (·.2.2)))) := upd_same
    have flw : H lw = none := free4 _ hlw
    have nlwp : lw ≠ p := fun z => by rw [z, ep4] at hlw; cases hlw
    generalize upd H4 lw (.lst (iL (sws.map (·.2.2)))) = H5 at *
    walk_at "st"
    refine ⟨p, _, dx, _, rfl, s5 _ _ ep4, Y.cl_Box, Y.na_Box_weights, by have h3 := putF_le "top" (.int top) ([] : List (Str × V)); have h4 := putF_le "switches" (.ref ls) (putF "top" (.int top) []); simp at h3; omega, ?_⟩
    walk_at "st"
    refine ⟨p, _, dx, _, rfl, upd_same, Y.cl_Box, Y.na_Box_at, by have h3 := putF_le "top" (.int top) ([] : List (Str × V)); have h4 := putF_le "switches" (.ref ls) (putF "top" (.int top) []); have h5 := putF_le "weights" (.ref lw) (putF "switches" (.ref ls) (putF "top" (.int top) [])); simp at h3; omega, ?_⟩
    rw [upd_upd]
    refine k _ ls lw qs ⟨⟨dx, upd_same⟩, by rw [upd_ne nlsp]; exact s5 _ _ e4, by rw [upd_ne nlwp]; exact e5, ?_, hn⟩ (free1 _ fls) flw (fun q hq => free1 _ (hf q hq)) (fun b o e n => by rw [upd_ne n]; exact s5 _ _ (keep4 _ _ e n))
    have go : ∀ {o : HO} {as : List Addr} {bs : List (Int × Int × Bool)}, (∀ q ∈ as, q ≠ p) → Paired (SwAt Y.c_Switch H4) as bs → Paired (SwAt Y.c_Switch (upd H5 p o)) as bs := by
      intro o as bs hn pr
      induction pr with
      | nil => exact .nil
      | cons r _ ih =>
        refine .cons ?_ (ih fun q hq => hn q (List.mem_cons_of_mem _ hq))
        obtain ⟨d, e⟩ := r
        exact ⟨d, by rw [upd_ne (hn _ List.mem_cons_self)]; exact s5 _ _ e⟩
    exact go nqp hP4

--SPLIT
/-- the numbers of those that are on -/
def litF : Nat → List (Int × Int × Bool) → List Int
  | _, [] => []
  | n, s :: st => if s.2.2 then (n : Int) :: litF (n + 1) st else litF (n + 1) st
def ans : List Int → List (Int × Int × Bool) → Int
  | w :: ws, s :: st => (if s.2.2 then w else 0) + ans ws st
  | _, _ => 0
theorem litF_snoc (s : Int × Int × Bool) : ∀ (st : List (Int × Int × Bool)) (n : Nat), litF n (st ++ [s]) = litF n st ++ if s.2.2 then [((n + st.length : Nat) : Int)] else []
  | [], n => by simp [litF]
  | x :: st, n => by
    simp only [List.cons_append, litF]
    rw [litF_snoc s st (n + 1), List.length_cons, show n + 1 + st.length = n + (st.length + 1) by omega]
    split <;> simp
theorem litF_len : ∀ (st : List (Int × Int × Bool)) (n : Nat), (litF n st).length ≤ st.length
  | [], n => by simp [litF]
  | s :: st, n => by
    have := litF_len st (n + 1)
    simp only [litF]
    split <;> simp <;> omega
theorem litF_mem : ∀ (st : List (Int × Int × Bool)) (n : Nat) (x : Int), x ∈ litF n st → (n : Int) ≤ x ∧ x < n + st.length
  | [], n, x, h => by simp [litF] at h
  | s :: st, n, x, h => by
    have ih := litF_mem st (n + 1) x
    simp only [litF] at h
    split at h
    · rcases List.mem_cons.mp h with e | e
      · subst e; simp
        omega
      · have := ih e; simp; omega
    · have := ih h; simp; omega
theorem litF_sum : ∀ (st : List (Int × Int × Bool)) (pre ws : List Int), ws.length = st.length → ((litF pre.length st).map fun n => (pre ++ ws).getD n.toNat 0).sum = ans ws st
  | [], pre, ws, h => by
    have : ws = [] := by cases ws <;> simp at h ⊢
    subst this
    simp [litF, ans]
  | s :: st, pre, w :: ws, h => by
    have ih := litF_sum st (pre ++ [w]) ws (by simpa using h)
    rw [List.length_append, List.length_singleton, List.append_assoc] at ih
    simp only [litF, ans]
    rw [← ih]
    split
    · simp
    · simp
  | s :: st, pre, [], h => by simp at h
def spLit (CB CS : Addr) : Sp := fun vs H Q _ => ∃ (p ls lw : Addr) (top at_ : Int) (qs : List Addr) (ws : List Int) (st : List (Int × Int × Bool)), vs = [.ref p] ∧ BoxAt CB CS H p top ls lw qs ws at_ st ∧ st.length ≤ 1000 ∧ ∀ l H', NewI H H' l (litF 0 st) → Q (.ref l) H'
theorem sw_get {C : Addr} {H : Hp} {qs : List Addr} {st : List (Int × Int × Bool)} (h : Paired (SwAt C H) qs st) {i : Nat} {q : Addr} (e : qs[i]? = some q) : ∃ s, st[i]? = some s ∧ SwAt C H q s := by
  induction h generalizing i with
  | nil => simp at e
  | cons r _ ih =>
    cases i with
    | zero => simp at e; subst e; exact ⟨_, rfl, r⟩
    | succ i => exact ih (i := i) (by simpa using e)
theorem cp_enum {g : TG} {ti : TT} {te : TE} {σc : St} {H : Hp} {Q : VK} {a : Addr} {xs : List V} (Pv : Nat → List V → Hp → Prop) (h0 : Pv 0 [] H) (hl : ∀ i zs H, Pv i zs H → SqL K H a xs ∧ zs.length ≤ i) (hx : xs.length < sizeLine)
    (hs : ∀ i x T zs H, xs[i]? = some x → Pv i zs H → H T = none → g (.ref T) σc (upd H T (.tup [.int i, x])) fun σ2 H2 => ti σ2 H2 fun b H3 => if b = true then te σ2 H3 fun y H4 => Pv (i + 1) (zs ++ [y]) H4 else Pv (i + 1) zs H3)
    (hd : ∀ l zs H, Pv xs.length zs H → H l = none → Q (.ref l) (upd H l (.lst zs))) : CompI (Ite K a) g ti te σc H Q := by
  refine ⟨fun i m zs H => m = xs.length - i ∧ i ≤ xs.length ∧ Pv i zs H, ⟨_, rfl, Nat.zero_le _, h0⟩, ?_⟩
  rintro i m zs H ⟨rfl, hi, p⟩
  obtain ⟨q1, hy⟩ := hl i zs H p
  refine ⟨by omega, ?_⟩
  by_cases hlt : i < xs.length
  · refine .inr ⟨⟨xs, xs[i], q1, by simp [hlt]⟩, Pv (i + 1), fun σ' H' p' => ⟨_, by omega, rfl, hlt, p'⟩, fun x H' y => ?_⟩
    obtain ⟨T, x1, rfl, hT, rfl, ex⟩ := y
    exact hs i x1 T zs H (ex xs q1) p hT
  · have e : i = xs.length := by omega
    exact .inl ⟨⟨xs, q1, by omega⟩, fun l hl => hd l zs H (by rw [← e]; exact p) hl⟩
theorem ok_Box_lit (T : Txt mg) (Y : Own K mg) (D : DefM K Y.c_Box "lit" "Box.lit" s_Box_lit) (C_Switch_on : CalleeM CX0 P w K mg base Y.c_Switch "on" 1 (spSwOn Y.c_Switch)) : CalleeM CX0 P w K mg base Y.c_Box "lit" 2 (spLit Y.c_Box Y.c_Switch) := by
  refine DefM.ok D sc_Box_lit bd_Box_lit (fun vs H Q E h => ?len) (fun f cdv A outer s H vs Q E hr h => ?body)
  case len => obtain ⟨p, ls, lw, top, at_, qs, ws, st, rfl, _⟩ := h; rfl
  case body =>
    obtain ⟨p, ls, lw, top, at_, qs, ws, st, rfl, B, hl, k⟩ := h
    have hql : qs.length = st.length := B.it.length
    obtain ⟨dx, ep⟩ := B.ob
    refine ⟨_, (pss_one (ps_ret (by exact pe_comp (N := ["number", "switch"]) (fr := [none, none]) ⟨by rfl, by decide +kernel, by decide +kernel, (show ∀ y ∈ (_ : List (Str × NameKind)), y.2 = NameKind.free → (defScope s_Box_lit).names.lookup y.1 = some .cell ∨ (defScope s_Box_lit).names.lookup y.1 = some .free by decide +kernel), (fr_none (fr_none fr_nil))⟩ (by rfl) (pi_enumerate1K K (by rfl) T.z_enumerate (pa_cons (pe_fldK K (pv 0) (by rfl)) pa_nil)) (fun _ _ _ _ => (pg_tupK K 2 (pgs_cons (pg_name (i := 0) (show List.Nodup (["number", "switch"] : List Str) by decide) (by rfl) (by first | exact Or.inl rfl | exact Or.inr rfl)) (pgs_cons (pg_name (i := 1) (show List.Nodup (["number", "switch"] : List Str) by decide) (by rfl) (by first | exact Or.inl rfl | exact Or.inr rfl)) pgs_nil)))) (fun _ _ _ _ => (pifs_one (pt_truthK K (pe_meth0N C_Switch_on Y.cl_Switch (pv 1) (hr.mono (by decide)))))) (fun _ _ _ _ => (pv 0)) (gw_tup (gws_cons (gw_name (by rfl)) (gws_cons (gw_name (by rfl)) gws_nil)))))), ?_⟩
    dsimp only [tSeq, tAsg, gName, tOp, tUn, tTest, tB, tAnd, tOr, tNot, tAndV, tOrV, tNotV, tIf, tIfS, tRet, tRetN, tDrop, tNext, tCons, tNil, tCB, tCall, tMenu, tComp, tComp2, msk, List.zipWith, tMakeS, iZip2, iEnum, tNoIf, tTru, tJoin, cxOf_K, tLst, tTup, tSl, tPart, tNoPart, tBM, tBM0, tChain, tC, tFor_eq, gTup, gCons, gNil, gSub, iList, iRng1, iRng2, iRng3, iTup, tWhile, tRev, tFld, sFld, tMeth, tMethS, tMake, tRaise, tCallS, tTry, tAug, tPar, tNever, ipI, List.append_nil]
    walk_at "st"
    refine ⟨p, _, dx, _, _, rfl, ep, Y.cl_Box, Y.na_Box_switches, bfl_switches _ _ _ _, ?_⟩
    walk_at "st"
    refine ⟨⟨_, B.sl⟩, cp_enum (xs := qs.map V.ref) (fun i ys H3 => ys = iL (litF 0 (st.take i)) ∧ i ≤ qs.length ∧ Same H H3) ⟨rfl, Nat.zero_le _, Same.refl _⟩ ?_ (szlt (by simp; omega)) ?_ ?_⟩
    · rintro i ys H3 ⟨rfl, hi, sm⟩
      refine ⟨SqL.of (sm _ _ B.sl), ?_⟩
      have := litF_len (st.take i) 0
      simp [iL] at this ⊢
      omega
    · rintro i x t ys H3 hx ⟨rfl, hi, sm⟩ ht
      rw [List.getElem?_map] at hx
      obtain ⟨q, hqi, rfl⟩ := Option.map_eq_some_iff.mp hx
      obtain ⟨s, hsi, d, hS⟩ := sw_get B.it hqi
      have hil : i < qs.length := (List.getElem?_eq_some_iff.mp hqi).1
      have s3 := sm.trans (same_upd (o := .tup [.int i, .ref q]) ht)
      have hsn : litF 0 (st.take (i + 1)) = litF 0 (st.take i) ++ if s.2.2 then [((i : Nat) : Int)] else [] := by
        rw [take_snoc_get hsi, litF_snoc, List.length_take, Nat.min_eq_left (by omega), Nat.zero_add]
      walk_at "st"
      refine ⟨_, _, rfl, SqT.of upd_same, rfl, _, _, rfl, _, _, rfl, rfl, ?_⟩
      walk_at "st"
      refine ⟨q, d, _, rfl, s3 _ _ hS, sfl_no _ _ _ (by decide +kernel) (by decide +kernel) (by decide +kernel), ?_⟩
      walk_at "st"
      refine ⟨q, s, rfl, ⟨d, s3 _ _ hS⟩, ?_⟩
      walk_at "st"
      cases hon : s.2.2 with
      | true =>
        rw [hon] at hsn
        walk_at "st"
        exact ⟨by rw [hsn]; simp [iL], by omega, s3⟩
      | false =>
        rw [hon] at hsn
        walk_at "st"
        exact ⟨by rw [hsn]; simp, by omega, s3⟩
    · rintro l ys H3 ⟨rfl, hi, sm⟩ hl2
      rw [List.take_of_length_le (by simp; omega)]
      exact k l _ ⟨sm.free hl2, sm.trans (same_upd hl2), upd_same⟩
def spAns (CB CS : Addr) : Sp := fun vs H Q _ => ∃ (p ls lw : Addr) (top at_ : Int) (qs : List Addr) (ws : List Int) (st : List (Int × Int × Bool)), vs = [.ref p] ∧ BoxAt CB CS H p top ls lw qs ws at_ st ∧ st.length ≤ 1000 ∧ ws.length = st.length ∧ ∀ H', Same H H' → Q (.int (ans ws st)) H'
theorem ok_Box_answer (T : Txt mg) (Y : Own K mg) (D : DefM K Y.c_Box "answer" "Box.answer" s_Box_answer) (C_Box_lit : CalleeM CX0 P w K mg base Y.c_Box "lit" 2 (spLit Y.c_Box Y.c_Switch)) : CalleeM CX0 P w K mg base Y.c_Box "answer" 3 (spAns Y.c_Box Y.c_Switch) := by
  refine DefM.ok D sc_Box_answer bd_Box_answer (fun vs H Q E h => ?len) (fun f cdv A outer s H vs Q E hr h => ?body)
  case len => obtain ⟨p, ls, lw, top, at_, qs, ws, st, rfl, _⟩ := h; rfl
  case body =>
    obtain ⟨p, ls, lw, top, at_, qs, ws, st, rfl, B, hl, hwl, k⟩ := h
    obtain ⟨dx, ep⟩ := B.ob
    refine ⟨_, (pss_one (ps_ret (pe_callB (call_sumK K) (by rfl) T.z_sum bt_sum (pa_cons (by exact pe_comp (N := ["number", "self"]) (fr := [none, some 0]) ⟨by rfl, by decide +kernel, by decide +kernel, (show ∀ y ∈ (_ : List (Str × NameKind)), y.2 = NameKind.free → (defScope s_Box_answer).names.lookup y.1 = some .cell ∨ (defScope s_Box_answer).names.lookup y.1 = some .free by decide +kernel), (fr_none (fr_some (by rfl) (by first | exact Or.inl rfl | exact Or.inr rfl) (by rfl) fr_nil))⟩ (by rfl) (pi_listK K (pe_meth0N C_Box_lit Y.cl_Box (pv 0) (hr.mono (by decide)))) (fun _ _ _ _ => (pg_name (i := 0) (show List.Nodup (["number", "self"] : List Str) by decide) (by rfl) (by first | exact Or.inl rfl | exact Or.inr rfl))) (fun _ _ _ _ => pifs_nil) (fun _ _ _ _ => (pe_ix (ix_K K) (pe_fldK K (pv 1) (by rfl)) (pv 0) (by exact fun _ _ => rfl))) (gw_name (by rfl))) pa_nil)))), ?_⟩
    dsimp only [tSeq, tAsg, gName, tOp, tUn, tTest, tB, tAnd, tOr, tNot, tAndV, tOrV, tNotV, tIf, tIfS, tRet, tRetN, tDrop, tNext, tCons, tNil, tCB, tCall, tMenu, tComp, tComp2, msk, List.zipWith, tMakeS, iZip2, iEnum, tNoIf, tTru, tJoin, cxOf_K, tLst, tTup, tSl, tPart, tNoPart, tBM, tBM0, tChain, tC, tFor_eq, gTup, gCons, gNil, gSub, iList, iRng1, iRng2, iRng3, iTup, tWhile, tRev, tFld, sFld, tMeth, tMethS, tMake, tRaise, tCallS, tTry, tAug, tPar, tNever, ipI, List.append_nil]
    walk_at "st"
    refine ⟨p, dx, _, rfl, ep, bfl_no _ _ _ _ (by decide +kernel) (by decide +kernel) (by decide +kernel) (by decide +kernel), ?_⟩
    walk_at "st"
    refine ⟨p, ls, lw, top, at_, qs, ws, st, rfl, B, hl, fun l H1 N1 => ?_⟩
    walk_at "st"
    have hll := litF_len st 0
    refine ⟨⟨_, SqL.of N1.at_⟩, cp_list (xs := iL (litF 0 st)) (fun i ys H3 => ys = iL (((litF 0 st).map fun n => ws.getD n.toNat 0).take i) ∧ i ≤ (litF 0 st).length ∧ H1 = H3) ⟨by simp, Nat.zero_le _, rfl⟩ ?_ (szlt (by simp [iL]; omega)) ?_ ?_⟩
    · rintro i ys H3 ⟨rfl, hi, rfl⟩
      exact ⟨SqL.of N1.at_, by simp [iL]; omega⟩
    · rintro i x ys H3 hx ⟨rfl, hi, rfl⟩
      rw [List.getElem?_map] at hx
      obtain ⟨n, hni, rfl⟩ := Option.map_eq_some_iff.mp hx
      have hb := litF_mem st 0 n (List.mem_of_getElem? hni)
      have hil : i < (litF 0 st).length := (List.getElem?_eq_some_iff.mp hni).1
      walk_at "st"
      refine ⟨p, _, dx, _, _, rfl, N1.sm _ _ ep, Y.cl_Box, Y.na_Box_weights, bfl_weights _ _ _ _, ?_⟩
      walk_at "st"
      have hw : ws[n.toNat]? = some (ws.getD n.toNat 0) := by
        rw [List.getD_eq_getElem?_getD, List.getElem?_eq_getElem (by omega)]; rfl
      refine i_ixN (SqL.of (N1.sm _ _ B.wl)) (by omega) (v := .int (ws.getD n.toNat 0)) (by rw [List.getElem?_map, hw]; rfl) ?_
      walk_at "st"
      refine ⟨?_, by omega, rfl⟩
      have : ((litF 0 st).map fun n => ws.getD n.toNat 0)[i]? = some (ws.getD n.toNat 0) := by rw [List.getElem?_map, hni]; rfl
      rw [List.take_add_one, this]
      simp [iL]
    · rintro l2 ys H3 ⟨rfl, hi, rfl⟩ hl2
      rw [List.take_of_length_le (by simp [iL])]
      refine i_sum (SqL.of upd_same) ?_
      have := litF_sum st [] ws hwl
      simp only [List.length_nil, List.nil_append] at this
      rw [this]
      exact k _ (N1.sm.trans (same_upd hl2))

--SPLIT
def spTurnB (CB CS : Addr) : Sp := fun vs H Q _ => ∃ (p ls lw : Addr) (top at_ c : Int) (qs : List Addr) (ws : List Int) (st : List (Int × Int × Bool)), vs = [.ref p, .int c] ∧ BoxAt CB CS H p top ls lw qs ws at_ st ∧ st.length ≤ 1000 ∧ ws.length = st.length ∧ 0 ≤ c ∧ c ≤ top ∧
  ∀ H', BoxAt CB CS H' p top ls lw qs ws c (st.map (stp c)) → (∀ b o, H b = some o → b ≠ p → b ∉ qs → H' b = some o) → Q (.int (ans ws (st.map (stp c)))) H'
theorem ne_kind {H : Hp} {a b : Addr} {o1 o2 : HO} (h1 : H a = some o1) (h2 : H b = some o2) (h : o1 ≠ o2) : a ≠ b := fun z => by
  subst z
  rw [h1] at h2
  exact h (Option.some.inj h2)
def spTurnBE (CB CS CP : Addr) : Sp := fun vs H Q E => ∃ (p ls lw : Addr) (top at_ c : Int) (qs : List Addr) (ws : List Int) (st : List (Int × Int × Bool)), vs = [.ref p, .int c] ∧ BoxAt CB CS H p top ls lw qs ws at_ st ∧ st.length ≤ 1000 ∧ ws.length = st.length ∧
  (0 ≤ c ∧ c ≤ top → ∀ H', BoxAt CB CS H' p top ls lw qs ws c (st.map (stp c)) → (∀ b o, H b = some o → b ≠ p → b ∉ qs → H' b = some o) → Q (.int (ans ws (st.map (stp c)))) H') ∧ (¬ (0 ≤ c ∧ c ≤ top) → E (.ref CP) none H)
theorem calm_Box_turn {CB CS CP : Addr} (C : CalleeM (CXE P w) P w K mg base CB "turn" 4 (spTurnBE CB CS CP)) : CalleeM CX0 P w K mg base CB "turn" 4 (spTurnB CB CS) :=
  C.calm fun vs H Q E ⟨p, ls, lw, top, at_, c, qs, ws, st, e, B, h1, h2, h3, h4, k⟩ => ⟨p, ls, lw, top, at_, c, qs, ws, st, e, B, h1, h2, fun _ => k, fun n => absurd ⟨h3, h4⟩ n⟩
theorem ok_Box_turn (T : Txt mg) (Z : Cls K mg) (Y : Own K mg) (D : DefM K Y.c_Box "turn" "Box.turn" s_Box_turn) (C_refuse_no_place : CalleeE P w K mg base "refuse_no_place" 1 (spRefPlaceE Z.c_NoPlace)) (C_Switch_turn : CalleeM CX0 P w K mg base Y.c_Switch "turn" 1 (spSwTurn Y.c_Switch)) (C_Box_answer : CalleeM CX0 P w K mg base Y.c_Box "answer" 3 (spAns Y.c_Box Y.c_Switch)) : CalleeM (CXE P w) P w K mg base Y.c_Box "turn" 4 (spTurnBE Y.c_Box Y.c_Switch Z.c_NoPlace) := by
  refine DefM.okE D sc_Box_turn bd_Box_turn (fun vs H Q E h => ?len) (fun f cdv A outer s H vs Q E hr h => ?body)
  case len => obtain ⟨p, ls, lw, top, at_, c, qs, ws, st, rfl, _⟩ := h; rfl
  case body =>
    obtain ⟨p, ls, lw, top, at_, c, qs, ws, st, rfl, B, hl, hwl, k, kx⟩ := h
    obtain ⟨dx, ep⟩ := B.ob
    have hql : qs.length = st.length := B.it.length
    have nls : ls ≠ p := ne_kind B.sl ep (by intro z; cases z)
    have nlw : lw ≠ p := ne_kind B.wl ep (by intro z; cases z)
    have nqs : ∀ q ∈ qs, q ≠ ls ∧ q ≠ lw := fun q hq => by
      obtain ⟨s, d, e⟩ := paired_all B.it hq
      exact ⟨ne_kind e B.sl (by intro z; cases z), ne_kind e B.wl (by intro z; cases z)⟩
    have nqp : ∀ q ∈ qs, q ≠ p := fun q hq z => by
      obtain ⟨s, d, e⟩ := paired_all B.it hq
      rw [z, ep] at e
      have e2 := Option.some.inj e
      have h2 : (bfl top ls lw at_).lookup ("top" : Str) = (sfl s.1 s.2.1 s.2.2).lookup ("top" : Str) := by
        injection e2 with _ _ e3
        rw [e3]
      rw [bfl_top, sfl_no _ _ _ (by decide +kernel) (by decide +kernel) (by decide +kernel)] at h2
      cases h2
    refine ⟨_, (pss_cons (ps_expr (pe_callE C_refuse_no_place (hr.mono (by decide)) (by rfl) (pa_cons (pe_fldK K (pv 0) (by rfl)) (pa_cons (pv 1) pa_nil))))
 (pss_cons (ps_fldK K (pv 0) (pv 1) rfl)
 (pss_cons (ps_for PassesOwn.leaving rfl (pi_listK K (pe_fldK K (pv 0) (by rfl))) (pg_name (i := 2) sc_Box_turn.nd rfl (Or.inl rfl))
 (pss_one (ps_expr (pe_methN C_Switch_turn Y.cl_Switch (pv 2) (hr.mono (by decide)) (pa_cons (pv 1) pa_nil)))))
 (pss_one (ps_ret (pe_meth0N C_Box_answer Y.cl_Box (pv 0) (hr.mono (by decide)))))))), ?_⟩
    dsimp only [tSeq, tAsg, gName, tOp, tUn, tTest, tB, tAnd, tOr, tNot, tAndV, tOrV, tNotV, tIf, tIfS, tRet, tRetN, tDrop, tNext, tCons, tNil, tCB, tCall, tMenu, tComp, tComp2, msk, List.zipWith, tMakeS, iZip2, iEnum, tNoIf, tTru, tJoin, cxOf_K, tLst, tTup, tSl, tPart, tNoPart, tBM, tBM0, tChain, tC, tFor_eq, gTup, gCons, gNil, gSub, iList, iRng1, iRng2, iRng3, iTup, tWhile, tRev, tFld, sFld, tMeth, tMethS, tMake, tRaise, tCallS, tTry, tAug, tPar, tNever, ipI, List.append_nil]
    walk_at "st"
    refine ⟨p, _, dx, _, _, rfl, ep, Y.cl_Box, Y.na_Box_top, bfl_top _ _ _ _, ?_⟩
    walk_at "st"
    refine ⟨top, c, rfl, fun hc => ?_, fun hn => kx hn⟩
    have k := k hc
    walk_at "st"
    refine ⟨p, _, dx, _, rfl, ep, Y.cl_Box, Y.na_Box_at, bfl_len _ _ _ _, ?_⟩
    rw [bfl_put]
    have e1 : upd H p (.ins Y.c_Box dx (bfl top ls lw c)) p = some (.ins Y.c_Box dx (bfl top ls lw c)) := upd_same
    have k1 : ∀ b o, H b = some o → b ≠ p → upd H p (.ins Y.c_Box dx (bfl top ls lw c)) b = some o := fun b o e n => by rw [upd_ne n]; exact e
    have B1 : BoxAt Y.c_Box Y.c_Switch (upd H p (.ins Y.c_Box dx (bfl top ls lw c))) p top ls lw qs ws c st := by
      refine ⟨⟨dx, e1⟩, k1 _ _ B.sl nls, k1 _ _ B.wl nlw, ?_, B.nd⟩
      have go : ∀ {as : List Addr} {bs : List (Int × Int × Bool)}, (∀ q ∈ as, q ≠ p) → Paired (SwAt Y.c_Switch H) as bs → Paired (SwAt Y.c_Switch (upd H p (.ins Y.c_Box dx (bfl top ls lw c)))) as bs := by
        intro as bs hn pr
        induction pr with
        | nil => exact .nil
        | cons r _ ih =>
          obtain ⟨d, e⟩ := r
          exact .cons ⟨d, k1 _ _ e (hn _ List.mem_cons_self)⟩ (ih fun q hq => hn q (List.mem_cons_of_mem _ hq))
      exact go nqp B.it
    generalize upd H p (.ins Y.c_Box dx (bfl top ls lw c)) = H1 at *
    walk_at "st"
    refine ⟨p, _, dx, _, _, rfl, e1, Y.cl_Box, Y.na_Box_switches, bfl_switches _ _ _ _, ?_⟩
    walk_at "st"
    refine ⟨⟨_, SqL.of B1.sl⟩, lp_list (xs := qs.map V.ref) (fun i σ H2 => ∃ u : Option V, σ = [some (.ref p), some (.int c), u] ∧ BoxAt Y.c_Box Y.c_Switch H2 p top ls lw qs ws c ((st.take i).map (stp c) ++ st.drop i) ∧ ∀ b o, H1 b = some o → b ∉ qs → H2 b = some o) ?_ ?_ ?_ ?_⟩
    · exact ⟨_, rfl, by simpa using B1, fun b o e _ => e⟩
    · rintro i σ H2 _ ⟨u, rfl, B2, k2⟩
      exact SqL.of B2.sl
    · rintro i x σ H2 hx ⟨u, rfl, B2, k2⟩
      rw [List.getElem?_map] at hx
      obtain ⟨q, hqi, rfl⟩ := Option.map_eq_some_iff.mp hx
      have hil : i < qs.length := (List.getElem?_eq_some_iff.mp hqi).1
      obtain ⟨s, hsi, d, hS⟩ := sw_get B2.it hqi
      have hs2 : st[i]? = some s := by
        rw [List.getElem?_append_right (by simp; omega)] at hsi
        simp only [List.length_map, List.length_take] at hsi
        rw [Nat.min_eq_left (by omega), Nat.sub_self, List.getElem?_drop] at hsi
        simpa using hsi
      walk_at "st"
      refine ⟨q, d, _, rfl, hS, sfl_no _ _ _ (by decide +kernel) (by decide +kernel) (by decide +kernel), ?_⟩
      walk_at "st"
      refine ⟨q, c, s, rfl, ⟨d, hS⟩, fun H3 h3 k3 => ?_⟩
      have hqm := List.mem_of_getElem? hqi
      refine ⟨_, rfl, ⟨?_, k3 _ _ B2.sl (nqs q hqm).1.symm, k3 _ _ B2.wl (nqs q hqm).2.symm, ?_, B2.nd⟩, fun b o e n => k3 _ _ (k2 b o e n) fun z => n (z ▸ hqm)⟩
      · obtain ⟨d2, e2⟩ := B2.ob
        exact ⟨d2, k3 _ _ e2 (nqp q hqm).symm⟩
      · have hset : (st.take (i + 1)).map (stp c) ++ st.drop (i + 1) = ((st.take i).map (stp c) ++ st.drop i).set i (stp c s) := by
          rw [take_snoc_get hs2, List.map_append, dropc hs2, List.append_assoc, List.set_append_right _ _ (by simp; omega)]
          simp only [List.length_map, List.length_take]
          rw [Nat.min_eq_left (by omega), Nat.sub_self]
          rfl
        rw [hset]
        have go : ∀ {as : List Addr} {bs : List (Int × Int × Bool)} {i : Nat}, as.Nodup → as[i]? = some q → Paired (SwAt Y.c_Switch H2) as bs → Paired (SwAt Y.c_Switch H3) as (bs.set i (stp c s)) := by
          intro as bs i hn hi pr
          induction pr generalizing i with
          | nil => simp at hi
          | @cons a b as bs r pr ih =>
            have hn2 := List.nodup_cons.mp hn
            cases i with
            | zero =>
              simp at hi
              subst hi
              refine .cons h3 ?_
              have stay : ∀ {as : List Addr} {bs : List (Int × Int × Bool)}, a ∉ as → Paired (SwAt Y.c_Switch H2) as bs → Paired (SwAt Y.c_Switch H3) as bs := by
                intro as bs hna pr
                induction pr with
                | nil => exact .nil
                | cons r _ ih =>
                  obtain ⟨d, e⟩ := r
                  exact .cons ⟨d, k3 _ _ e fun z => hna (z ▸ List.mem_cons_self)⟩ (ih fun h => hna (List.mem_cons_of_mem _ h))
              exact stay hn2.1 pr
            | succ i =>
              simp at hi
              obtain ⟨d, e⟩ := r
              refine .cons ⟨d, k3 _ _ e fun z => hn2.1 (z ▸ List.mem_of_getElem? hi)⟩ (ih hn2.2 hi)
        exact go B2.nd hqi B2.it
    · rintro σ H2 ⟨u, rfl, B2, k2⟩
      rw [List.take_of_length_le (by simp; omega), List.drop_of_length_le (by simp; omega), List.append_nil] at B2
      obtain ⟨d2, e2⟩ := B2.ob
      walk_at "st"
      refine ⟨p, d2, _, rfl, e2, bfl_no _ _ _ _ (by decide +kernel) (by decide +kernel) (by decide +kernel) (by decide +kernel), ?_⟩
      walk_at "st"
      refine ⟨p, ls, lw, top, c, qs, ws, _, rfl, B2, by simpa using hl, by simpa using hwl, fun H3 s3 => ?_⟩
      exact k H3 (B2.more s3) fun b o e n1 n2 => s3 _ _ (k2 _ _ (k1 _ _ e n1) n2)

--SPLIT
def boxRun (ws : List Int) : List (Int × Int × Bool) → List Int → List Int
  | _, [] => []
  | st, c :: row => ans ws (st.map (stp c)) :: boxRun ws (st.map (stp c)) row
def boxEnd : List (Int × Int × Bool) → List Int → List (Int × Int × Bool)
  | st, [] => st
  | st, c :: row => boxEnd (st.map (stp c)) row
/-- a switch along a row -/
def onF (lo hi : Int) : Bool → List Int → Bool
  | b, [] => b
  | b, c :: r => onF lo hi (if hi ≤ c then true else if c ≤ lo then false else b) r
theorem ans_fsum (F : Int → Int → Bool) : ∀ sws : List Sw, ans (sws.map (·.2.2)) (sws.map fun s => (s.1, s.2.1, F s.1 s.2.1)) = fsum F sws
  | [] => rfl
  | s :: sws => by
    rw [fsum_cons]
    simp only [List.map_cons, ans]
    rw [ans_fsum F sws]
/-- a first return -/
theorem ret_ans {top : Int} {sws : List Sw} (hv : ∀ s ∈ sws, okS top s) {h l : Int} (hl0 : 0 ≤ l) (hlh : l ≤ h) (st : List (Int × Int × Bool)) (hst : ∃ F : Int → Int → Bool, st = sws.map fun s => (s.1, s.2.1, F s.1 s.2.1)) :
    ans (sws.map (·.2.2)) (((st.map (stp 0)).map (stp h)).map (stp l)) = ret sws h l := by
  obtain ⟨F, rfl⟩ := hst
  have e : (((sws.map fun s => (s.1, s.2.1, F s.1 s.2.1)).map (stp 0)).map (stp h)).map (stp l) = sws.map fun s => (s.1, s.2.1, (fun a b => decide (b ≤ h ∧ a < l)) s.1 s.2.1) := by
    rw [List.map_map, List.map_map, List.map_map]
    refine List.map_congr_left fun s hs => ?_
    obtain ⟨h0, h1, _⟩ := hv s hs
    obtain ⟨a, b, c⟩ := s
    simp only at h0 h1
    simp only [Function.comp, stp]
    refine Prod.ext rfl (Prod.ext rfl ?_)
    simp only
    rw [Bool.eq_iff_iff, decide_eq_true_eq]
    (repeat' split) <;> simp <;> omega
  rw [e]
  exact ans_fsum (fun a b => decide (b ≤ h ∧ a < l)) sws
theorem stp_shape {sws : List Sw} {st : List (Int × Int × Bool)} (hst : ∃ F : Int → Int → Bool, st = sws.map fun s => (s.1, s.2.1, F s.1 s.2.1)) (c : Int) : ∃ F : Int → Int → Bool, st.map (stp c) = sws.map fun s => (s.1, s.2.1, F s.1 s.2.1) := by
  obtain ⟨F, rfl⟩ := hst
  exact ⟨fun a b => if b ≤ c then true else if c ≤ a then false else F a b, by rw [List.map_map]; rfl⟩

def spAnew (CB CS : Addr) : Sp := fun vs H Q _ => ∃ (p ls lw : Addr) (top at_ : Int) (qs : List Addr) (ws : List Int) (st : List (Int × Int × Bool)), vs = [.ref p] ∧ BoxAt CB CS H p top ls lw qs ws at_ st ∧ st.length ≤ 1000 ∧ ws.length = st.length ∧ 0 ≤ top ∧
  ∀ H', BoxAt CB CS H' p top ls lw qs ws 0 (st.map (stp 0)) → (∀ b o, H b = some o → b ≠ p → b ∉ qs → H' b = some o) → Q .non H'
theorem ok_Box_anew (T : Txt mg) (Y : Own K mg) (D : DefM K Y.c_Box "anew" "Box.anew" s_Box_anew) (C_Box_turn : CalleeM CX0 P w K mg base Y.c_Box "turn" 4 (spTurnB Y.c_Box Y.c_Switch)) : CalleeM CX0 P w K mg base Y.c_Box "anew" 5 (spAnew Y.c_Box Y.c_Switch) := by
  refine DefM.ok D sc_Box_anew bd_Box_anew (fun vs H Q E h => ?len) (fun f cdv A outer s H vs Q E hr h => ?body)
  case len => obtain ⟨p, ls, lw, top, at_, qs, ws, st, rfl, _⟩ := h; rfl
  case body =>
    obtain ⟨p, ls, lw, top, at_, qs, ws, st, rfl, B, hl, hwl, h0, k⟩ := h
    obtain ⟨dx, ep⟩ := B.ob
    refine ⟨_, (pss_one (ps_expr (pe_methN C_Box_turn Y.cl_Box (pv 0) (hr.mono (by decide)) (pa_cons pe_int pa_nil)))), ?_⟩
    dsimp only [tSeq, tAsg, gName, tOp, tUn, tTest, tB, tAnd, tOr, tNot, tAndV, tOrV, tNotV, tIf, tIfS, tRet, tRetN, tDrop, tNext, tCons, tNil, tCB, tCall, tMenu, tComp, tComp2, msk, List.zipWith, tMakeS, iZip2, iEnum, tNoIf, tTru, tJoin, cxOf_K, tLst, tTup, tSl, tPart, tNoPart, tBM, tBM0, tChain, tC, tFor_eq, gTup, gCons, gNil, gSub, iList, iRng1, iRng2, iRng3, iTup, tWhile, tRev, tFld, sFld, tMeth, tMethS, tMake, tRaise, tCallS, tTry, tAug, tPar, tNever, ipI, List.append_nil]
    walk_at "st"
    refine ⟨p, dx, _, rfl, ep, bfl_no _ _ _ _ (by decide +kernel) (by decide +kernel) (by decide +kernel) (by decide +kernel), ?_⟩
    walk_at "st"
    exact ⟨p, ls, lw, top, at_, 0, qs, ws, st, rfl, B, hl, hwl, by decide, h0, fun H2 B2 k2 => k H2 B2 k2⟩

def spFirst (CB CS : Addr) : Sp := fun vs H Q _ => ∃ (p ls lw : Addr) (top at_ h l : Int) (qs : List Addr) (ws : List Int) (st : List (Int × Int × Bool)), vs = [.ref p, .int h, .int l] ∧ BoxAt CB CS H p top ls lw qs ws at_ st ∧ st.length ≤ 1000 ∧ ws.length = st.length ∧ 0 ≤ l ∧ l ≤ h ∧ h ≤ top ∧
  ∀ H', BoxAt CB CS H' p top ls lw qs ws l (((st.map (stp 0)).map (stp h)).map (stp l)) → (∀ b o, H b = some o → b ≠ p → b ∉ qs → H' b = some o) → Q (.int (ans ws (((st.map (stp 0)).map (stp h)).map (stp l)))) H'
theorem ok_first_return (T : Txt mg) (Y : Own K mg) (D : Def K mg "first_return" s_first_return) (C_Box_anew : CalleeM CX0 P w K mg base Y.c_Box "anew" 5 (spAnew Y.c_Box Y.c_Switch)) (C_Box_turn : CalleeM CX0 P w K mg base Y.c_Box "turn" 4 (spTurnB Y.c_Box Y.c_Switch)) : Callee P w K mg base "first_return" 6 (spFirst Y.c_Box Y.c_Switch) := by
  refine D.ok sc_first_return bd_first_return (fun vs H Q E h => ?len) (fun f cdv A outer s H vs Q E hr h => ?body)
  case len => obtain ⟨p, ls, lw, top, at_, h, l, qs, ws, st, rfl, _⟩ := h; rfl
  case body =>
    obtain ⟨p, ls, lw, top, at_, h, l, qs, ws, st, rfl, B, hl, hwl, h0, h1, h2, k⟩ := h
    obtain ⟨dx, ep⟩ := B.ob
    refine ⟨_, (pss_cons (ps_expr (pe_meth0N C_Box_anew Y.cl_Box (pv 0) (hr.mono (by decide))))
 (pss_cons (ps_expr (pe_methN C_Box_turn Y.cl_Box (pv 0) (hr.mono (by decide)) (pa_cons (pv 1) pa_nil)))
 (pss_one (ps_ret (pe_methN C_Box_turn Y.cl_Box (pv 0) (hr.mono (by decide)) (pa_cons (pv 2) pa_nil)))))), ?_⟩
    dsimp only [tSeq, tAsg, gName, tOp, tUn, tTest, tB, tAnd, tOr, tNot, tAndV, tOrV, tNotV, tIf, tIfS, tRet, tRetN, tDrop, tNext, tCons, tNil, tCB, tCall, tMenu, tComp, tComp2, msk, List.zipWith, tMakeS, iZip2, iEnum, tNoIf, tTru, tJoin, cxOf_K, tLst, tTup, tSl, tPart, tNoPart, tBM, tBM0, tChain, tC, tFor_eq, gTup, gCons, gNil, gSub, iList, iRng1, iRng2, iRng3, iTup, tWhile, tRev, tFld, sFld, tMeth, tMethS, tMake, tRaise, tCallS, tTry, tAug, tPar, tNever, ipI, List.append_nil]
    walk_at "st"
    refine ⟨p, dx, _, rfl, ep, bfl_no _ _ _ _ (by decide +kernel) (by decide +kernel) (by decide +kernel) (by decide +kernel), ?_⟩
    walk_at "st"
    refine ⟨p, ls, lw, top, at_, qs, ws, st, rfl, B, hl, hwl, by omega, fun H2 B2 k2 => ?_⟩
    obtain ⟨dx2, ep2⟩ := B2.ob
    walk_at "st"
    refine ⟨p, dx2, _, rfl, ep2, bfl_no _ _ _ _ (by decide +kernel) (by decide +kernel) (by decide +kernel) (by decide +kernel), ?_⟩
    walk_at "st"
    refine ⟨p, ls, lw, top, 0, h, qs, ws, _, rfl, B2, by simpa using hl, by simpa using hwl, by omega, h2, fun H3 B3 k3 => ?_⟩
    obtain ⟨dx3, ep3⟩ := B3.ob
    walk_at "st"
    refine ⟨p, dx3, _, rfl, ep3, bfl_no _ _ _ _ (by decide +kernel) (by decide +kernel) (by decide +kernel) (by decide +kernel), ?_⟩
    walk_at "st"
    refine ⟨p, ls, lw, top, h, l, qs, ws, _, rfl, B3, by simpa using hl, by simpa using hwl, h0, by omega, fun H4 B4 k4 => ?_⟩
    exact k H4 B4 fun b o e n1 n2 => k4 b o (k3 b o (k2 b o e n1 n2) n1 n2) n1 n2

/-- lists of ints, one for each -/
def TabAt (H : Hp) (us : List Addr) (tab : List (List Int)) : Prop := Paired (fun u (r : List Int) => H u = some (.lst (iL r))) us tab
theorem TabAt.more {H H' : Hp} {us : List Addr} {tab : List (List Int)} (h : TabAt H us tab) (s : Same H H') : TabAt H' us tab := Paired.mapP h fun _ _ e => s _ _ e

--SPLIT
def Exb (E : XK) (H : Hp) (XB XS : Addr) (top : Int) (sws : List Sw) : Prop := (¬ okTop top → ∀ H', Same H H' → E (.ref XB) none H') ∧ (okTop top → ¬ (∀ s ∈ sws, okS top s) → ∀ H', Same H H' → E (.ref XS) none H')
theorem Exb.on {E : XK} {H H1 : Hp} {XB XS : Addr} {top : Int} {sws : List Sw} (x : Exb E H XB XS top sws) (s : Same H H1) : Exb E H1 XB XS top sws := ⟨fun h H' s' => x.1 h H' (s.trans s'), fun h1 h2 H' s' => x.2 h1 h2 H' (s.trans s')⟩
theorem Exb.sub {E : XK} {H : Hp} {XB XS : Addr} {top : Int} {sws sws' : List Sw} (x : Exb E H XB XS top sws) (h : ∀ s ∈ sws', s ∈ sws) : Exb E H XB XS top sws' := ⟨x.1, fun h1 h2 => x.2 h1 fun z => h2 fun s hs => z s (h s hs)⟩
def spReturnsE (CB CS XB XS : Addr) : Sp := fun vs H Q E => ∃ (a : Addr) (ts : List Addr) (sws : List Sw) (top : Int), vs = [.int top, .ref a] ∧ H a = some (.lst (ts.map V.ref)) ∧ SwT H ts sws ∧ sws.length ≤ 1000 ∧
  (∀ tn : Nat, top = tn → okTop top → (∀ s ∈ sws, okS top s) → ∀ l us H', Same H H' → H l = none → H' l = some (.lst (us.map V.ref)) → TabAt H' us (tabOf sws (tn + 1)) → (∀ u ∈ us, H u = none) → Q (.ref l) H') ∧ Exb E H XB XS top sws
theorem ok_returns_of (T : Txt mg) (Z : Cls K mg) (Y : Own K mg) (D : Def K mg "returns_of" s_returns_of) (C_Box : CalleeC (CXE P w) P w K mg base Y.c_Box "Box" 4 (spBoxInitE Y.c_Box Y.c_Switch Z.c_NoBox Z.c_NoSwitch)) (C_first_return : Callee P w K mg base "first_return" 6 (spFirst Y.c_Box Y.c_Switch)) : CalleeE P w K mg base "returns_of" 7 (spReturnsE Y.c_Box Y.c_Switch Z.c_NoBox Z.c_NoSwitch) := by
  refine Def.okE D sc_returns_of bd_returns_of (fun vs H Q E h => ?len) (fun f cdv A outer s H vs Q E hr h => ?body)
  case len => obtain ⟨a, ts, sws, top, rfl, _⟩ := h; rfl
  case body =>
    obtain ⟨a, ts, sws, top, rfl, hA, hT, hl, k, X⟩ := h
    refine ⟨_, (pss_cons (ps_set (i := 2) sc_returns_of.nd rfl (Or.inr rfl) (pe_makeE C_Box (hr.mono (by decide)) (by rfl) (pa_cons (pv 0) (pa_cons (pv 1) pa_nil))))
 (pss_one (ps_ret (by exact pe_compD (N := ["high", "box"]) (fr := [none, some 2]) ⟨by rfl, by decide +kernel, by decide +kernel, (show ∀ y ∈ (_ : List (Str × NameKind)), y.2 = NameKind.free → (defScope s_returns_of).names.lookup y.1 = some .cell ∨ (defScope s_returns_of).names.lookup y.1 = some .free by decide +kernel), (fr_none (fr_some (by rfl) (by first | exact Or.inl rfl | exact Or.inr rfl) (by rfl) fr_nil))⟩ (by rfl) (pi_range1 (by rfl) T.z_range (pa_cons (pe_op op_addP (pv 0) pe_int) pa_nil)) (fun _ _ _ _ => (pg_name (i := 0) (show List.Nodup (["high", "box"] : List Str) by decide) (by rfl) (by first | exact Or.inl rfl | exact Or.inr rfl))) (fun _ _ _ _ => pifs_nil) (fun _ _ _ _ => (by exact pe_comp (N := ["low", "box", "high"]) (fr := [none, some 1, some 0]) ⟨by rfl, by decide +kernel, by decide +kernel, nestD_frees (by decide +kernel), (fr_none (fr_some (by rfl) (nestD_kind (by first | exact Or.inl rfl | exact Or.inr rfl)) (by rfl) (fr_some (by rfl) (nestD_kind (by first | exact Or.inl rfl | exact Or.inr rfl)) (by rfl) fr_nil)))⟩ (by rfl) (pi_range1 (by rfl) T.z_range (pa_cons (pe_op op_addP (pv 0) pe_int) pa_nil)) (fun _ _ _ _ => (pg_name (i := 0) (show List.Nodup (["low", "box", "high"] : List Str) by decide) (by rfl) (by first | exact Or.inl rfl | exact Or.inr rfl))) (fun _ _ _ _ => pifs_nil) (fun _ _ _ _ => (pe_callN C_first_return (hr.mono (by decide)) (by rfl) (pa_cons (pv 1) (pa_cons (pv 2) (pa_cons (pv 0) pa_nil))))) (gw_name (by rfl)))) (gw_name (by rfl)))))), ?_⟩
    dsimp only [tSeq, tAsg, gName, tOp, tUn, tTest, tB, tAnd, tOr, tNot, tAndV, tOrV, tNotV, tIf, tIfS, tRet, tRetN, tDrop, tNext, tCons, tNil, tCB, tCall, tMenu, tComp, tComp2, msk, List.zipWith, tMakeS, iZip2, iEnum, tNoIf, tTru, tJoin, cxOf_K, tLst, tTup, tSl, tPart, tNoPart, tBM, tBM0, tChain, tC, tFor_eq, gTup, gCons, gNil, gSub, iList, iRng1, iRng2, iRng3, iTup, tWhile, tRev, tFld, sFld, tMeth, tMethS, tMake, tRaise, tCallS, tTry, tAug, tPar, tNever, ipI, List.append_nil]
    walk_at "st"
    intro x dx nx ndx nex
    have s1 : Same H (upd H dx (.own x)) := same_upd ndx
    have nx1 : upd H dx (.own x) x = none := by rw [upd_ne (Ne.symm nex)]; exact nx
    have s2 : Same H (upd (upd H dx (.own x)) x (.ins Y.c_Box dx [])) := s1.trans (same_upd nx1)
    have ex : upd (upd H dx (.own x)) x (.ins Y.c_Box dx []) x = some (.ins Y.c_Box dx []) := upd_same
    generalize upd (upd H dx (.own x)) x (.ins Y.c_Box dx []) = H1 at *
    refine ⟨x, dx, a, ts, sws, top, rfl, ex, s2 _ _ hA, hT.more s2, hl, fun hT0 hv H2 ls lw qs B fls flw fqs kp => ⟨rfl, ?_⟩, fun hn H2 kp => X.1 hn H2 fun b o e => kp b o (s2 b o e) (ne_of_none e nx), fun h1 hn H2 kp => X.2 h1 hn H2 fun b o e => kp b o (s2 b o e) (ne_of_none e nx)⟩
    obtain ⟨h1, h2⟩ := hT0
    obtain ⟨top, rfl⟩ : ∃ tn : Nat, top = (tn : Int) := ⟨top.toNat, by omega⟩
    have k := k top rfl ⟨h1, h2⟩ hv
    have s3 : Same H H2 := fun b o e => kp b o (s2 b o e) (ne_of_none e nx)
    have fq : ∀ q ∈ qs, H q = none := fun q hq => s2.free (fqs q hq)
    have shp : ∃ F : Int → Int → Bool, (sws.map fun s => (s.1, s.2.1, false)) = sws.map fun s => (s.1, s.2.1, F s.1 s.2.1) := ⟨fun _ _ => false, rfl⟩
    have hwl : (sws.map (·.2.2)).length = sws.length := by simp
    clear kp fqs fls flw ex s1 nx1
    generalize (sws.map fun s => (s.1, s.2.1, false)) = st0 at *
    generalize hws : sws.map (·.2.2) = ws at *
    walk_at "st"
    refine ⟨by omega, by omega, cp_range (fun i ys H3 => ∃ us : List Addr, ys = us.map V.ref ∧ us.length = i ∧ Same H H3 ∧ TabAt H3 us (tabOf sws i) ∧ (∀ u ∈ us, H u = none) ∧ ∃ at_ st, BoxAt Y.c_Box Y.c_Switch H3 x top ls lw qs ws at_ st ∧ ∃ F : Int → Int → Bool, st = sws.map fun s => (s.1, s.2.1, F s.1 s.2.1)) ?_ ?_ (szlt (by omega)) ?_ ?_⟩
    · exact ⟨[], rfl, rfl, s3, .nil, by simp, _, _, B, shp⟩
    · rintro i ys H3 ⟨us, rfl, hu2, _⟩
      simp; omega
    · rintro i ys H3 hi ⟨us, rfl, hul, sm, hTb, hnu, at_, st, B3, hF⟩
      walk_at "st"
      refine ⟨by omega, by omega, cp_range (fun j zs H4 => zs = iL ((tabRow sws i).take j) ∧ j ≤ i + 1 ∧ Same H H4 ∧ TabAt H4 us (tabOf sws i) ∧ ∃ at_ st, BoxAt Y.c_Box Y.c_Switch H4 x top ls lw qs ws at_ st ∧ ∃ F : Int → Int → Bool, st = sws.map fun s => (s.1, s.2.1, F s.1 s.2.1)) ⟨by simp, by omega, sm, hTb, _, _, B3, hF⟩ ?_ (szlt (by omega)) ?_ ?_⟩
      · rintro j zs H4 ⟨rfl, hj, _⟩
        simp [iL]; omega
      · rintro j zs H4 hj ⟨rfl, hj2, sm4, hT4, at4, st4, B4, hF4⟩
        have hst4 : st4.length = sws.length := by obtain ⟨F, rfl⟩ := hF4; simp
        walk_at "st"
        refine ⟨x, ls, lw, top, at4, 0 + (i : Int), 0 + (j : Int), qs, ws, st4, rfl, B4, by omega, by omega, by omega, by omega, by omega, fun H5 B5 k5 => ?_⟩
        have hR := ret_ans (top := top) hv (h := 0 + (i : Int)) (l := 0 + (j : Int)) (by omega) (by omega) st4 hF4
        rw [hws] at hR
        rw [hR]
        refine ⟨?_, by omega, fun b o e => k5 b o (sm4 b o e) (ne_of_none e nx) (fun h => by rw [fq b h] at e; cases e), ?_, _, _, B5, stp_shape (stp_shape (stp_shape hF4 _) _) _⟩
        · rw [take_snoc_get (tabRow_get sws (show j ≤ i by omega))]
          simp [iL]
        · refine Paired.mapP hT4 fun u r e => k5 u _ e ?_ fun h => ?_
          · obtain ⟨d, e2⟩ := B4.ob
            exact ne_kind e e2 (by intro z; cases z)
          · obtain ⟨_, d, e2⟩ := paired_all B4.it h
            exact ne_kind e e2 (by intro z; cases z) rfl
      · rintro u zs H4 ⟨rfl, hj, sm4, hT4, at4, st4, B4, hF4⟩ hu4
        rw [List.take_of_length_le (by rw [tabRow_len]; omega)]
        have s5 := same_upd (o := .lst (iL (tabRow sws i))) hu4
        refine ⟨us ++ [u], by simp, by simp; omega, sm4.trans s5, ?_, fun z hz => ?_, at4, st4, B4.more s5, hF4⟩
        · unfold tabOf
          rw [List.range_succ, List.map_append]
          exact Paired.snoc (hT4.more s5) upd_same
        · rcases List.mem_append.mp hz with q | q
          · exact hnu z q
          · simp at q; subst q; exact sm4.free hu4
    · rintro l ys H3 ⟨us, rfl, hul, sm, hTb, hnu, _⟩ hl3
      have s5 := same_upd (o := .lst (us.map V.ref)) hl3
      rw [show ((top : Int) + 1).toNat = top + 1 by omega] at hTb
      exact k l us _ (sm.trans s5) (sm.free hl3) upd_same (hTb.more s5) hnu

--SPLIT
def okRow (top : Int) (row : List Int) : Prop := ∀ c ∈ row, 0 ≤ c ∧ c ≤ top
def spAnswersE (XB XS XP : Addr) : Sp := fun vs H Q E => ∃ (a b : Addr) (ts : List Addr) (sws : List Sw) (top : Int) (row : List Int), vs = [.int top, .ref a, .ref b] ∧ H a = some (.lst (ts.map V.ref)) ∧ SwT H ts sws ∧ H b = some (.lst (iL row)) ∧ sws.length ≤ 1000 ∧ row.length ≤ 50000 ∧
  (okTop top → (∀ s ∈ sws, okS top s) → okRow top row → ∀ v H', Same H H' → Q v H') ∧ Exb E H XB XS top sws ∧ (okTop top → (∀ s ∈ sws, okS top s) → ¬ okRow top row → ∀ H', Same H H' → E (.ref XP) none H')
theorem ok_answers_of (T : Txt mg) (Z : Cls K mg) (Y : Own K mg) (D : Def K mg "answers_of" s_answers_of) (C_Box : CalleeC (CXE P w) P w K mg base Y.c_Box "Box" 4 (spBoxInitE Y.c_Box Y.c_Switch Z.c_NoBox Z.c_NoSwitch)) (C_Box_turn : CalleeM (CXE P w) P w K mg base Y.c_Box "turn" 4 (spTurnBE Y.c_Box Y.c_Switch Z.c_NoPlace)) : CalleeE P w K mg base "answers_of" 6 (spAnswersE Z.c_NoBox Z.c_NoSwitch Z.c_NoPlace) := by
  refine Def.okE D sc_answers_of bd_answers_of (fun vs H Q E h => ?len) (fun f cdv A outer s H vs Q E hr h => ?body)
  case len => obtain ⟨a, b, ts, sws, top, row, rfl, _⟩ := h; rfl
  case body =>
    obtain ⟨a, b, ts, sws, top, row, rfl, hA, hT, hB, hl, hrl, k, X, kp⟩ := h
    refine ⟨_, (pss_cons (ps_set (i := 3) sc_answers_of.nd rfl (Or.inr rfl) (pe_makeE C_Box (hr.mono (by decide)) (by rfl) (pa_cons (pv 0) (pa_cons (pv 1) pa_nil))))
 (pss_one (ps_ret (by exact pe_compE (N := ["place", "box"]) (fr := [none, some 3]) ⟨by rfl, by decide +kernel, by decide +kernel, (show ∀ y ∈ (_ : List (Str × NameKind)), y.2 = NameKind.free → (defScope s_answers_of).names.lookup y.1 = some .cell ∨ (defScope s_answers_of).names.lookup y.1 = some .free by decide +kernel), (fr_none (fr_some (by rfl) (by first | exact Or.inl rfl | exact Or.inr rfl) (by rfl) fr_nil))⟩ (by rfl) (pi_listK K (pv 2)) (fun _ _ _ _ => (pg_name (i := 0) (show List.Nodup (["place", "box"] : List Str) by decide) (by rfl) (by first | exact Or.inl rfl | exact Or.inr rfl))) (fun _ _ _ _ hx => pifs_nil) (fun _ _ _ _ hx => (pe_methEB C_Box_turn Y.cl_Box rfl (pv 1) hx (hr.mono (by decide)) (pa_cons (pv 0) pa_nil))) (gw_name (by rfl)))))), ?_⟩
    dsimp only [tSeq, tAsg, gName, tOp, tUn, tTest, tB, tAnd, tOr, tNot, tAndV, tOrV, tNotV, tIf, tIfS, tRet, tRetN, tDrop, tNext, tCons, tNil, tCB, tCall, tMenu, tComp, tComp2, msk, List.zipWith, tMakeS, iZip2, iEnum, tNoIf, tTru, tJoin, cxOf_K, tLst, tTup, tSl, tPart, tNoPart, tBM, tBM0, tChain, tC, tFor_eq, gTup, gCons, gNil, gSub, iList, iRng1, iRng2, iRng3, iTup, tWhile, tRev, tFld, sFld, tMeth, tMethS, tMake, tRaise, tCallS, tTry, tAug, tPar, tNever, ipI, List.append_nil]
    walk_at "st"
    intro x dx nx ndx nex
    have s1 : Same H (upd H dx (.own x)) := same_upd ndx
    have nx1 : upd H dx (.own x) x = none := by rw [upd_ne (Ne.symm nex)]; exact nx
    have s2 : Same H (upd (upd H dx (.own x)) x (.ins Y.c_Box dx [])) := s1.trans (same_upd nx1)
    have ex : upd (upd H dx (.own x)) x (.ins Y.c_Box dx []) x = some (.ins Y.c_Box dx []) := upd_same
    generalize upd (upd H dx (.own x)) x (.ins Y.c_Box dx []) = H1 at *
    refine ⟨x, dx, a, ts, sws, top, rfl, ex, s2 _ _ hA, hT.more s2, hl, fun hT0 hv H2 ls lw qs B fls flw fqs kb => ⟨rfl, ?_⟩, fun hn H2 kb => X.1 hn H2 fun b o e => kb b o (s2 b o e) (ne_of_none e nx), fun h1 hn H2 kb => X.2 h1 hn H2 fun b o e => kb b o (s2 b o e) (ne_of_none e nx)⟩
    have s3 : Same H H2 := fun b o e => kb b o (s2 b o e) (ne_of_none e nx)
    have fq : ∀ q ∈ qs, H q = none := fun q hq => s2.free (fqs q hq)
    clear kb fqs fls flw ex s1 nx1
    generalize hst0 : (sws.map fun s => (s.1, s.2.1, false)) = st0 at *
    generalize hws : sws.map (·.2.2) = ws at *
    have hl0 : st0.length = sws.length := by rw [← hst0]; simp
    have hlw : ws.length = sws.length := by rw [← hws]; simp
    walk_at "st"
    refine ⟨⟨_, SqL.of (s3 _ _ hB)⟩, cp_list (xs := iL row) (fun i ys H3 => ys.length = i ∧ i ≤ row.length ∧ Same H H3 ∧ (∃ at_ st, st.length = sws.length ∧ BoxAt Y.c_Box Y.c_Switch H3 x top ls lw qs ws at_ st) ∧ ∀ c ∈ row.take i, 0 ≤ c ∧ c ≤ top) ⟨rfl, Nat.zero_le _, s3, ⟨0, st0, hl0, B⟩, by simp⟩ ?_ (szlt (by simp [iL]; omega)) ?_ ?_⟩
    · rintro i ys H3 ⟨hy, hi, sm, _⟩
      exact ⟨SqL.of (sm _ _ hB), by omega⟩
    · rintro i y ys H3 hx ⟨hy, hi, sm, ⟨at_, st, hst, B3⟩, hok⟩
      rw [List.getElem?_map] at hx
      obtain ⟨c, hci, rfl⟩ := Option.map_eq_some_iff.mp hx
      have hil : i < row.length := (List.getElem?_eq_some_iff.mp hci).1
      obtain ⟨d3, e3⟩ := B3.ob
      walk_at "st"
      refine ⟨x, d3, _, rfl, e3, bfl_no _ _ _ _ (by decide +kernel) (by decide +kernel) (by decide +kernel) (by decide +kernel), ?_⟩
      walk_at "st"
      refine ⟨x, ls, lw, top, at_, c, qs, ws, _, rfl, B3, by omega, by omega, fun hc H4 B4 k4 => ?_, fun hn => kp hT0 hv (fun z => hn (z c (List.mem_of_getElem? hci))) _ sm⟩
      refine ⟨by simp [hy], by omega, fun b o e => k4 b o (sm b o e) (ne_of_none e nx) (fun h => by rw [fq b h] at e; cases e), ⟨c, _, by simpa using hst, B4⟩, fun z hz => ?_⟩
      rw [take_snoc_get hci] at hz
      rcases List.mem_append.mp hz with q | q
      · exact hok z q
      · simp at q; subst q; exact hc
    · rintro l ys H3 ⟨_, hi, sm, _, hok⟩ hl3
      rw [List.take_of_length_le (by simp [iL])] at hok
      exact k hT0 hv hok _ _ (sm.trans (same_upd hl3))
--SPLIT
theorem tab_get {H : Hp} {us : List Addr} {tab : List (List Int)} (h : TabAt H us tab) {i : Nat} {r : List Int} (e : tab[i]? = some r) : ∃ u, us[i]? = some u ∧ H u = some (.lst (iL r)) := by
  have go : ∀ {as : List Addr} {bs : List (List Int)} {i : Nat} {r : List Int}, Paired (fun u (r : List Int) => H u = some (.lst (iL r))) as bs → bs[i]? = some r → ∃ u, as[i]? = some u ∧ H u = some (.lst (iL r)) := by
    intro as bs i r p
    induction p generalizing i with
    | nil => intro z; simp at z
    | cons r _ ih =>
      intro z
      cases i with
      | zero => simp at z; subst z; exact ⟨_, rfl, r⟩
      | succ i => exact ih (i := i) (by simpa using z)
  exact go h e
def spTellerE (XB XS : Addr) : Sp := fun vs H Q E => ∃ (a b : Addr) (ta tb : List Addr) (sa sb : List Sw) (top : Int), vs = [.int top, .ref a, .ref b] ∧ H a = some (.lst (ta.map V.ref)) ∧ SwT H ta sa ∧ H b = some (.lst (tb.map V.ref)) ∧ SwT H tb sb ∧ sa.length ≤ 1000 ∧ sb.length ≤ 1000 ∧
  (okTop top → (∀ s ∈ sa ++ sb, okS top s) → ∀ v H', Same H H' → Q v H') ∧ Exb E H XB XS top (sa ++ sb)
theorem ok_teller_of (T : Txt mg) (Z : Cls K mg) (Y : Own K mg) (D : Def K mg "teller_of" s_teller_of) (C_returns_of : CalleeE P w K mg base "returns_of" 7 (spReturnsE Y.c_Box Y.c_Switch Z.c_NoBox Z.c_NoSwitch)) : CalleeE P w K mg base "teller_of" 8 (spTellerE Z.c_NoBox Z.c_NoSwitch) := by
  refine Def.okE D sc_teller_of bd_teller_of (fun vs H Q E h => ?len) (fun f cdv A outer s H vs Q E hr h => ?body)
  case len => obtain ⟨a, b, ta, tb, sa, sb, top, rfl, _⟩ := h; rfl
  case body =>
    obtain ⟨a, b, ta, tb, sa, sb, top, rfl, hA, hTa, hB, hTb, hla, hlb, k, X⟩ := h
    have hu := hr.units
    refine ⟨_, (pss_cons (ps_set (i := 3) sc_teller_of.nd rfl (Or.inl rfl) (pe_callE C_returns_of (hr.mono (by decide)) (by rfl) (pa_cons (pv 0) (pa_cons (pv 1) pa_nil))))
 (pss_cons (ps_set (i := 4) sc_teller_of.nd rfl (Or.inl rfl) (pe_callE C_returns_of (hr.mono (by decide)) (by rfl) (pa_cons (pv 0) (pa_cons (pv 2) pa_nil))))
 (pss_cons (ps_for PassesOwn.leaving rfl (pi_range1 (by rfl) T.z_range (pa_cons (pe_op op_addP (pv 0) pe_int) pa_nil)) (pg_name (i := 5) sc_teller_of.nd rfl (Or.inl rfl))
 (pss_one (ps_for PassesOwn.leaving rfl (pi_range3 (by rfl) T.z_range (pa_cons (pv 5) (pa_cons (pe_negK (r := -1) (by decide)) (pa_cons (pe_negK (r := -1) (by decide)) pa_nil)))) (pg_name (i := 6) sc_teller_of.nd rfl (Or.inl rfl))
 (pss_one (ps_if (pt_cmpR (op_neK K hu) (pe_ix (ix_K K) (pe_ix (ix_K K) (pv 3) (pv 5) (by exact fun _ _ => rfl)) (pv 6) (by exact fun _ _ => rfl)) (pe_ix (ix_K K) (pe_ix (ix_K K) (pv 4) (pv 5) (by exact fun _ _ => rfl)) (pv 6) (by exact fun _ _ => rfl)) (nomark _))
 (pss_one (ps_ret (pe_lst (pa_cons (pv 5) (pa_cons (pv 6) pa_nil)))))
 pss_nil)))))
 (pss_one (ps_ret pe_non))))), ?_⟩
    dsimp only [tSeq, tAsg, gName, tOp, tUn, tTest, tB, tAnd, tOr, tNot, tAndV, tOrV, tNotV, tIf, tIfS, tRet, tRetN, tDrop, tNext, tCons, tNil, tCB, tCall, tMenu, tComp, tComp2, msk, List.zipWith, tMakeS, iZip2, iEnum, tNoIf, tTru, tJoin, cxOf_K, tLst, tTup, tSl, tPart, tNoPart, tBM, tBM0, tChain, tC, tFor_eq, gTup, gCons, gNil, gSub, iList, iRng1, iRng2, iRng3, iTup, tWhile, tRev, tFld, sFld, tMeth, tMethS, tMake, tRaise, tCallS, tTry, tAug, tPar, tNever, ipI, List.append_nil]
    walk_at "st"
    refine ⟨a, ta, sa, top, rfl, hA, hTa, hla, fun tn htn hT0 hva l1 us1 H1 s1 _ e1 hT1 _ => ?_, X.sub (by simp_all)⟩
    walk_at "st"
    refine ⟨b, tb, sb, top, rfl, s1 _ _ hB, hTb.more s1, hlb, fun tn2 htn2 _ hvb l2 us2 H2 s2 _ e2 hT2 _ => ?_, (X.sub (by simp_all)).on s1⟩
    obtain rfl : tn2 = tn := by omega
    have k' := k hT0 (fun s hs => (List.mem_append.mp hs).elim (hva s) (hvb s))
    clear k
    replace e1 := s2 _ _ e1
    replace hT1 := hT1.more s2
    have S2 := s1.trans s2
    subst htn
    obtain ⟨g1, g2⟩ := hT0
    walk_at "st"
    refine ⟨by omega, by omega, lp_range (fun i σ H3 => ∃ u1 u2 : Option V, σ = [some (.int (tn2 : Int)), some (.ref a), some (.ref b), some (.ref l1), some (.ref l2), u1, u2] ∧ H2 = H3) ⟨_, _, rfl, rfl⟩ ?_ ?_⟩
    · rintro i σ H3 hi ⟨u1, u2, rfl, rfl⟩
      obtain ⟨w1, hw1, f1⟩ := tab_get hT1 (tabOf_get sa (n := tn2 + 1) (h := i) (by omega))
      obtain ⟨w2, hw2, f2⟩ := tab_get hT2 (tabOf_get sb (n := tn2 + 1) (h := i) (by omega))
      walk_at "st"
      refine ⟨_, _, rfl, ⟨by omega, by omega, by omega, by omega⟩, lp_down (fun j σ H3 => ∃ u2 : Option V, σ = [some (.int (tn2 : Int)), some (.ref a), some (.ref b), some (.ref l1), some (.ref l2), some (.int (0 + (i : Int))), u2] ∧ H2 = H3) ⟨_, rfl, rfl⟩ ?_ ?_⟩
      · rintro j σ H3 hj ⟨u2, rfl, rfl⟩
        walk_at "st"
        refine i_ixN (SqL.of e1) (by omega) (v := .ref w1) (by rw [List.getElem?_map, show (0 + (i : Int)).toNat = i by omega, hw1]; rfl) ?_
        walk_at "st"
        refine i_ixL (SqL.of f1) (by omega) (by rw [tabRow_len]; omega) (fun v1 _ _ => ?_)
        walk_at "st"
        refine i_ixN (SqL.of e2) (by omega) (v := .ref w2) (by rw [List.getElem?_map, show (0 + (i : Int)).toNat = i by omega, hw2]; rfl) ?_
        walk_at "st"
        refine i_ixL (SqL.of f2) (by omega) (by rw [tabRow_len]; omega) (fun v2 _ _ => ?_)
        walk_at "st"
        refine i_ifn (fun _ => ?_) (fun _ => ?_)
        · walk_at "st"
          intro l5 h5
          exact k' _ _ (S2.trans (same_upd h5))
        · exact ⟨_, rfl, rfl⟩
      · rintro σ H3 ⟨u2, rfl, rfl⟩
        exact ⟨_, _, rfl, rfl⟩
    · rintro σ H3 ⟨u1, u2, rfl, rfl⟩
      walk_at "st"
      exact k' _ _ S2
--SPLIT
/-- what is refused, "" for nothing -/
def Due (top : Int) (sws : List Sw) (row : List Int) (way : Int) (d : Str) : Prop := (¬ okTop top ∧ d = "NoBox") ∨ (okTop top ∧ ¬ (∀ s ∈ sws, okS top s) ∧ d = "NoSwitch") ∨ (okTop top ∧ (∀ s ∈ sws, okS top s) ∧ way = 2 ∧ ¬ okRow top row ∧ d = "NoPlace") ∨ (okTop top ∧ (∀ s ∈ sws, okS top s) ∧ (way = 2 → okRow top row) ∧ d = "")
theorem Due.uniq {top : Int} {sws : List Sw} {row : List Int} {way : Int} {d d' : Str} (h : Due top sws row way d) (h' : Due top sws row way d') : d = d' := by
  rcases h with ⟨a1, a2⟩ | ⟨a1, a2, a3⟩ | ⟨a1, a2, a3, a4, a5⟩ | ⟨a1, a2, a3, a4⟩ <;> rcases h' with ⟨b1, b2⟩ | ⟨b1, b2, b3⟩ | ⟨b1, b2, b3, b4, b5⟩ | ⟨b1, b2, b3, b4⟩ <;> first | (simp only [*]; done) | exact absurd ‹okTop top› ‹¬ okTop top› | exact absurd ‹∀ s ∈ sws, okS top s› ‹¬ _› | exact absurd (a3 ‹way = 2›) ‹¬ okRow top row› | exact absurd (b3 ‹way = 2›) ‹¬ okRow top row›
def spAskE (XB XS XP : Addr) : Sp := fun vs H Q E => ∃ (a b : Addr) (ts : List Addr) (sws : List Sw) (top : Int) (row : List Int) (way : Int), vs = [.int top, .ref a, .ref b, .int way] ∧ H a = some (.lst (ts.map V.ref)) ∧ SwT H ts sws ∧ H b = some (.lst (iL row)) ∧ sws.length ≤ 1000 ∧ row.length ≤ 50000 ∧ 0 ≤ way ∧ way < 5 ∧
  (Due top sws row way "" → ∀ v H', Same H H' → Q v H') ∧ Exb E H XB XS top sws ∧ (Due top sws row way "NoPlace" → ∀ H', Same H H' → E (.ref XP) none H')
theorem ok_law_ask (T : Txt mg) (Z : Cls K mg) (Y : Own K mg) (D : Def K mg "_law_ask" s_law_ask) (C_Box : CalleeC (CXE P w) P w K mg base Y.c_Box "Box" 4 (spBoxInitE Y.c_Box Y.c_Switch Z.c_NoBox Z.c_NoSwitch)) (C_returns_of : CalleeE P w K mg base "returns_of" 7 (spReturnsE Y.c_Box Y.c_Switch Z.c_NoBox Z.c_NoSwitch)) (C_answers_of : CalleeE P w K mg base "answers_of" 6 (spAnswersE Z.c_NoBox Z.c_NoSwitch Z.c_NoPlace)) (C_teller_of : CalleeE P w K mg base "teller_of" 8 (spTellerE Z.c_NoBox Z.c_NoSwitch)) : CalleeE P w K mg base "_law_ask" 9 (spAskE Z.c_NoBox Z.c_NoSwitch Z.c_NoPlace) := by
  refine Def.okE D sc_law_ask bd_law_ask (fun vs H Q E h => ?len) (fun f cdv A outer s H vs Q E hr h => ?body)
  case len => obtain ⟨a, b, ts, sws, top, row, way, rfl, _⟩ := h; rfl
  case body =>
    obtain ⟨a, b, ts, sws, top, row, way, rfl, hA, hT, hB, hl, hrl, hw0, hw1, k, X, kp⟩ := h
    have hu := hr.units
    refine ⟨_, (pss_cons (ps_if (pt_cmpR (op_eqK K hu) (pv 3) pe_int (nomark _))
 (pss_one (ps_ret (pe_makeE C_Box (hr.mono (by decide)) (by rfl) (pa_cons (pv 0) (pa_cons (pv 1) pa_nil)))))
 pss_nil)
 (pss_cons (ps_if (pt_cmpR (op_eqK K hu) (pv 3) pe_int (nomark _))
 (pss_one (ps_ret (pe_callE C_returns_of (hr.mono (by decide)) (by rfl) (pa_cons (pv 0) (pa_cons (pv 1) pa_nil)))))
 pss_nil)
 (pss_cons (ps_if (pt_cmpR (op_eqK K hu) (pv 3) pe_int (nomark _))
 (pss_one (ps_ret (pe_callE C_answers_of (hr.mono (by decide)) (by rfl) (pa_cons (pv 0) (pa_cons (pv 1) (pa_cons (pv 2) pa_nil))))))
 pss_nil)
 (pss_cons (ps_if (pt_cmpR (op_eqK K hu) (pv 3) pe_int (nomark _))
 (pss_one (ps_ret (pe_callE C_teller_of (hr.mono (by decide)) (by rfl) (pa_cons (pv 0) (pa_cons (pv 1) (pa_cons (pe_lst pa_nil) pa_nil))))))
 pss_nil)
 (pss_one (ps_ret (pe_callE C_teller_of (hr.mono (by decide)) (by rfl) (pa_cons (pv 0) (pa_cons (pe_lst pa_nil) (pa_cons (pv 1) pa_nil)))))))))), ?_⟩
    dsimp only [tSeq, tAsg, gName, tOp, tUn, tTest, tB, tAnd, tOr, tNot, tAndV, tOrV, tNotV, tIf, tIfS, tRet, tRetN, tDrop, tNext, tCons, tNil, tCB, tCall, tMenu, tComp, tComp2, msk, List.zipWith, tMakeS, iZip2, iEnum, tNoIf, tTru, tJoin, cxOf_K, tLst, tTup, tSl, tPart, tNoPart, tBM, tBM0, tChain, tC, tFor_eq, gTup, gCons, gNil, gSub, iList, iRng1, iRng2, iRng3, iTup, tWhile, tRev, tFld, sFld, tMeth, tMethS, tMake, tRaise, tCallS, tTry, tAug, tPar, tNever, ipI, List.append_nil]
    walk_at "st"
    refine i_if (fun g => ?_) (fun g0 => ?_)
    · walk_at "st"
      intro x dx nx ndx nex
      have s1 : Same H (upd H dx (.own x)) := same_upd ndx
      have nx1 : upd H dx (.own x) x = none := by rw [upd_ne (Ne.symm nex)]; exact nx
      have s2 : Same H (upd (upd H dx (.own x)) x (.ins Y.c_Box dx [])) := s1.trans (same_upd nx1)
      have ex : upd (upd H dx (.own x)) x (.ins Y.c_Box dx []) x = some (.ins Y.c_Box dx []) := upd_same
      generalize upd (upd H dx (.own x)) x (.ins Y.c_Box dx []) = H1 at *
      have hs : ∀ H2, But x H1 H2 → Same H H2 := fun H2 kb b o e => kb b o (s2 b o e) (ne_of_none e nx)
      exact ⟨x, dx, a, ts, sws, top, rfl, ex, s2 _ _ hA, hT.more s2, hl, fun hT0 hv H2 ls lw qs B fls flw fqs kb => ⟨rfl, k (.inr (.inr (.inr ⟨hT0, hv, fun z => by omega, rfl⟩))) _ _ (hs _ kb)⟩, fun hn H2 kb => X.1 hn H2 (hs _ kb), fun h1 hn H2 kb => X.2 h1 hn H2 (hs _ kb)⟩
    walk_at "st"
    refine i_if (fun g => ?_) (fun g1 => ?_)
    · walk_at "st"
      exact ⟨a, ts, sws, top, rfl, hA, hT, hl, fun tn _ hT0 hv l us H1 s1 _ _ _ _ => k (.inr (.inr (.inr ⟨hT0, hv, fun z => by omega, rfl⟩))) _ _ s1, X⟩
    walk_at "st"
    refine i_if (fun g => ?_) (fun g2 => ?_)
    · walk_at "st"
      exact ⟨a, b, ts, sws, top, row, rfl, hA, hT, hB, hl, hrl, fun hT0 hv hrow v H1 s1 => k (.inr (.inr (.inr ⟨hT0, hv, fun _ => hrow, rfl⟩))) _ _ s1, X, fun hT0 hv hn => kp (.inr (.inr (.inl ⟨hT0, hv, g, hn, rfl⟩)))⟩
    walk_at "st"
    refine i_if (fun g => ?_) (fun g3 => ?_)
    · walk_at "st"
      intro l3 h3
      have s3 := same_upd (o := .lst []) h3
      exact ⟨a, l3, ts, [], sws, [], top, rfl, s3 _ _ hA, hT.more s3, upd_same, .nil, hl, by simp, fun hT0 hv v H1 s1 => k (.inr (.inr (.inr ⟨hT0, by simpa using hv, fun z => by omega, rfl⟩))) _ _ (s3.trans s1), (X.sub (by simp)).on s3⟩
    · walk_at "st"
      intro l3 h3
      have s3 := same_upd (o := .lst []) h3
      walk_at "st"
      exact ⟨l3, a, [], ts, [], sws, top, rfl, upd_same, .nil, s3 _ _ hA, hT.more s3, by simp, hl, fun hT0 hv v H1 s1 => k (.inr (.inr (.inr ⟨hT0, by simpa using hv, fun z => by omega, rfl⟩))) _ _ (s3.trans s1), (X.sub (by simp)).on s3⟩
--SPLIT
theorem kin_B (Z : Cls K mg) : KinF Z Z.c_NoBox false false false true false false false false false false false false := ⟨Z.isi_NoBox, Z.k_NoBox_NoTrain, Z.k_NoBox_NoStand, Z.k_NoBox_NoPaper, Z.k_NoBox_NoBox, Z.k_NoBox_NoSwitch, Z.k_NoBox_NoPlace, Z.k_NoBox_NoTable, Z.k_NoBox_NoText, Z.k_NoBox_NoRow, Z.k_NoBox_NoPiece, Z.k_NoBox_NothingLeft, Z.k_NoBox_TooMany, Z.k_NoBox_ValueError⟩
theorem kin_S (Z : Cls K mg) : KinF Z Z.c_NoSwitch false false false false true false false false false false false false := ⟨Z.isi_NoSwitch, Z.k_NoSwitch_NoTrain, Z.k_NoSwitch_NoStand, Z.k_NoSwitch_NoPaper, Z.k_NoSwitch_NoBox, Z.k_NoSwitch_NoSwitch, Z.k_NoSwitch_NoPlace, Z.k_NoSwitch_NoTable, Z.k_NoSwitch_NoText, Z.k_NoSwitch_NoRow, Z.k_NoSwitch_NoPiece, Z.k_NoSwitch_NothingLeft, Z.k_NoSwitch_TooMany, Z.k_NoSwitch_ValueError⟩
theorem kin_L (Z : Cls K mg) : KinF Z Z.c_NoPlace false false false false false true false false false false false false := ⟨Z.isi_NoPlace, Z.k_NoPlace_NoTrain, Z.k_NoPlace_NoStand, Z.k_NoPlace_NoPaper, Z.k_NoPlace_NoBox, Z.k_NoPlace_NoSwitch, Z.k_NoPlace_NoPlace, Z.k_NoPlace_NoTable, Z.k_NoPlace_NoText, Z.k_NoPlace_NoRow, Z.k_NoPlace_NoPiece, Z.k_NoPlace_NothingLeft, Z.k_NoPlace_TooMany, Z.k_NoPlace_ValueError⟩
theorem due_S : dueX "NoSwitch" = [false, false, false, false, true, false, false, false, false, false, false, false, true] := by decide +kernel
def kinL (d : Str) : List Bool := if d == "" then [] else dueX d
theorem kl_B : kinL "NoBox" = [false, false, false, true, false, false, false, false, false, false, false, false, true] := by decide +kernel
theorem kl_S : kinL "NoSwitch" = [false, false, false, false, true, false, false, false, false, false, false, false, true] := by decide +kernel
theorem kl_L : kinL "NoPlace" = [false, false, false, false, false, true, false, false, false, false, false, false, true] := by decide +kernel
theorem kl_0 : kinL "" = [] := by decide +kernel
theorem Due.strOk {top : Int} {sws : List Sw} {row : List Int} {way : Int} {d : Str} (h : Due top sws row way d) : PyData.strOk d = true := by
  rcases h with ⟨_, rfl⟩ | ⟨_, _, rfl⟩ | ⟨_, _, _, _, rfl⟩ | ⟨_, _, _, rfl⟩ <;> decide +kernel
def spAsked : Sp := fun vs H Q _ => ∃ (top way : Int) (x y : V) (G : List Bool → Prop), vs = [.int top, x, y, .int way] ∧
  ((way < 5 ∧ 0 ≤ way ∧ ∃ (a b : Addr) (ts : List Addr) (sws : List Sw) (row : List Int), x = .ref a ∧ y = .ref b ∧ H a = some (.lst (ts.map V.ref)) ∧ SwT H ts sws ∧ H b = some (.lst (iL row)) ∧ sws.length ≤ 1000 ∧ row.length ≤ 50000 ∧ ∀ d, Due top sws row way d → G (kinL d)) ∨
   (¬ way < 5 ∧ ∃ hi : Int, y = .int hi ∧ (0 ≤ top ∧ top < hi → G []) ∧ (¬ (0 ≤ top ∧ top < hi) → G (dueX "NoSwitch")))) ∧
  ∀ l bs H', Same H H' → H' l = some (.lst (bL bs)) → G bs → Q (.ref l) H'
theorem ok_law_asked (T : Txt mg) (Z : Cls K mg) (Y : Own K mg) (D : Def K mg "_law_asked" s_law_asked) (C_law_ask : CalleeE P w K mg base "_law_ask" 9 (spAskE Z.c_NoBox Z.c_NoSwitch Z.c_NoPlace)) (C_Switch : CalleeC (CXE P w) P w K mg base Y.c_Switch "Switch" 1 (spSwInitE Y.c_Switch Z.c_NoSwitch)) (C_law_a_kin : CalleeN P w K mg base "_law_a_kin" 1 (spKinG Z)) : Callee P w K mg base "_law_asked" 10 spAsked := by
  refine D.ok sc_law_asked bd_law_asked (fun vs H Q E h => ?len) (fun f cdv A outer s H vs Q E hr h => ?body)
  case len => obtain ⟨top, way, x, y, G, rfl, _⟩ := h; rfl
  case body =>
    obtain ⟨top, way, x, y, G, rfl, hc, k⟩ := h
    have hu := hr.units
    refine ⟨_, (pss_cons (ps_set (i := 4) sc_law_asked.nd rfl (Or.inl rfl) (pe_lst pa_nil))
 (pss_join (ps_try (TC := Z.c_TrainError) (j := 5) rfl rfl rfl Z.m_TrainError (by rfl) sc_law_asked.nd rfl rfl rfl (fun pins ξ Ex hp => (pss_one (ps_if (pt_cmpR op_lt (pv 3) pe_int (nomark _))
 (pss_one (ps_expr (pe_callS C_law_ask (hr.mono (by decide)) (by rfl) hp (pa_cons (pv 0) (pa_cons (pv 1) (pa_cons (pv 2) (pa_cons (pv 3) pa_nil)))))))
 (pss_one (ps_expr (pe_makeS C_Switch (hr.mono (by decide)) (by rfl) hp (pa_cons (pv 0) (pa_cons (pv 2) pa_nil)))))))) (fun pins e => (pss_one (ps_set (i := 4) sc_law_asked.nd rfl (Or.inl rfl) (pe_callC C_law_a_kin ((hr.mono (by decide)).noted _) (by rfl) (pa_cons (pv 5) pa_nil))))))
 (pss_one (ps_ret (pv 4))))), ?_⟩
    dsimp only [tSeq, tAsg, gName, tOp, tUn, tTest, tB, tAnd, tOr, tNot, tAndV, tOrV, tNotV, tIf, tIfS, tRet, tRetN, tDrop, tNext, tCons, tNil, tCB, tCall, tMenu, tComp, tComp2, msk, List.zipWith, tMakeS, iZip2, iEnum, tNoIf, tTru, tJoin, cxOf_K, tLst, tTup, tSl, tPart, tNoPart, tBM, tBM0, tChain, tC, tFor_eq, gTup, gCons, gNil, gSub, iList, iRng1, iRng2, iRng3, iTup, tWhile, tRev, tFld, sFld, tMeth, tMethS, tMake, tRaise, tCallS, tTry, tAug, tPar, tNever, ipI, List.append_nil]
    walk_at "st"
    intro l1 h1
    have s1 : Same H _ := same_upd (o := .lst []) h1
    have e1 : upd H l1 (.lst []) l1 = some (.lst []) := upd_same
    generalize upd H l1 (.lst []) = H1 at *
    walk_at "st"
    refine ⟨fun σ H8 => ∃ (lk : Addr) (bs : List Bool) (u : Option V), σ = [some (.int top), some x, some y, some (.int way), some (.ref lk), u] ∧ Same H H8 ∧ H8 lk = some (.lst (bL bs)) ∧ G bs, ?_, ?_⟩
    · walk_at "st"
      refine i_if (fun gw => ?_) (fun gw => ?_)
      · rcases hc with ⟨_, hw0, a, b, ts, sws, row, rfl, rfl, hA, hT, hB, hl, hrl, hG⟩ | ⟨z, _⟩
        · walk_at "st"
          refine ⟨a, b, ts, sws, top, row, way, rfl, s1 _ _ hA, hT.more s1, s1 _ _ hB, hl, hrl, hw0, gw, fun hd v H8 s8 => ?_, ⟨fun hn H8 s8 => ?_, fun hT0 hn H8 s8 => ?_⟩, fun hd H8 s8 => ?_⟩
          · have := hG _ hd
            rw [kl_0] at this
            exact ⟨l1, [], _, rfl, s1.trans s8, s8 _ _ e1, this⟩
          · refine ⟨Z.e_NoBox, fun e he => ?_⟩
            walk_at "st"
            refine ⟨e, _, _, _, _, _, _, _, _, _, _, _, _, _, rfl, upd_same, kin_B Z, fun lk H9 s9 hk => ?_⟩
            have := hG _ (.inl ⟨hn, rfl⟩)
            rw [kl_B] at this
            exact ⟨lk, _, _, rfl, (s1.trans s8).trans ((same_upd he).trans s9), hk, this⟩
          · refine ⟨Z.e_NoSwitch, fun e he => ?_⟩
            walk_at "st"
            refine ⟨e, _, _, _, _, _, _, _, _, _, _, _, _, _, rfl, upd_same, kin_S Z, fun lk H9 s9 hk => ?_⟩
            have := hG _ (.inr (.inl ⟨hT0, hn, rfl⟩))
            rw [kl_S] at this
            exact ⟨lk, _, _, rfl, (s1.trans s8).trans ((same_upd he).trans s9), hk, this⟩
          · refine ⟨Z.e_NoPlace, fun e he => ?_⟩
            walk_at "st"
            refine ⟨e, _, _, _, _, _, _, _, _, _, _, _, _, _, rfl, upd_same, kin_L Z, fun lk H9 s9 hk => ?_⟩
            have := hG _ hd
            rw [kl_L] at this
            exact ⟨lk, _, _, rfl, (s1.trans s8).trans ((same_upd he).trans s9), hk, this⟩
        · exact absurd gw z
      · rcases hc with ⟨z, _⟩ | ⟨_, hi, rfl, hG0, hG1⟩
        · exact absurd z gw
        · walk_at "st"
          intro q dx nq ndx neq
          have t1 : Same H1 (upd H1 dx (.own q)) := same_upd ndx
          have nq1 : upd H1 dx (.own q) q = none := by rw [upd_ne (Ne.symm neq)]; exact nq
          refine ⟨q, dx, top, hi, rfl, upd_same, fun hv => ⟨rfl, ?_⟩, fun hn => ?_⟩
          · rw [upd_upd]
            have t2 := t1.trans (same_upd (o := .ins Y.c_Switch dx (sfl top hi false)) nq1)
            exact ⟨l1, [], _, rfl, s1.trans t2, t2 _ _ e1, hG0 hv⟩
          · refine ⟨Z.e_NoSwitch, fun e he => ?_⟩
            walk_at "st"
            refine ⟨e, _, _, _, _, _, _, _, _, _, _, _, _, _, rfl, upd_same, kin_S Z, fun lk H9 s9 hk => ?_⟩
            have := hG1 hn
            rw [due_S] at this
            exact ⟨lk, _, _, rfl, (s1.trans (t1.trans (same_upd nq1))).trans ((same_upd he).trans s9), hk, this⟩
    rintro σ H8 ⟨lk, bs, u, rfl, s8, hk, hg⟩
    walk_at "st"
    exact k lk bs _ s8 hk hg
--SPLIT
def spADue : Sp := fun vs H Q _ => ∃ (a b : Addr) (ts : List Addr) (sws : List Sw) (top : Int) (row : List Int) (way : Int), vs = [.int top, .ref a, .ref b, .int way] ∧ H a = some (.lst (ts.map V.ref)) ∧ SwT H ts sws ∧ H b = some (.lst (iL row)) ∧ ∀ d, Due top sws row way d → Q (.str d) H
theorem ok_law_a_due (T : Txt mg) (D : Def K mg "_law_a_due" s_law_a_due) : Callee P w K mg base "_law_a_due" 1 spADue := by
  refine D.ok sc_law_a_due bd_law_a_due (fun vs H Q E h => ?len) (fun f cdv A outer s H vs Q E hr h => ?body)
  case len => obtain ⟨a, b, ts, sws, top, row, way, rfl, _⟩ := h; rfl
  case body =>
    obtain ⟨a, b, ts, sws, top, row, way, rfl, hA, hT, hB, k⟩ := h
    have hu := hr.units
    have htl : ts.length = sws.length := hT.length
    refine ⟨_, (pss_cons (ps_if (PW.pt (pw_or (pt_cmpR op_lt (pv 0) pe_int (nomark _)) (pw_or1 (pt_cmpR op_gt (pv 0) pe_int (nomark _)))))
 (pss_one (ps_ret pe_str))
 pss_nil)
 (pss_cons (ps_for PassesOwn.never rfl (pi_listK K (pv 1)) (pg_tupK K 3 (pgs_cons (pg_name (i := 4) sc_law_a_due.nd rfl (Or.inl rfl)) (pgs_cons (pg_name (i := 5) sc_law_a_due.nd rfl (Or.inl rfl)) (pgs_cons (pg_name (i := 6) sc_law_a_due.nd rfl (Or.inl rfl)) pgs_nil))))
 (pss_one (ps_if (PW.pt (pw_or (pt_cmpR op_lt (pv 4) pe_int (nomark _)) (pw_or (pt_cmpR op_le (pv 5) (pv 4) (nomark _)) (pw_or1 (pt_cmpR op_gt (pv 5) (pv 0) (nomark _))))))
 (pss_one (ps_ret pe_str))
 pss_nil)))
 (pss_join (ps_if (pt_cmpR (op_eqK K hu) (pv 3) pe_int (nomark _))
 (pss_one (ps_for PassesOwn.never rfl (pi_listK K (pv 2)) (pg_name (i := 7) sc_law_a_due.nd rfl (Or.inl rfl))
 (pss_one (ps_if (PW.pt (pw_or (pt_cmpR op_lt (pv 7) pe_int (nomark _)) (pw_or1 (pt_cmpR op_gt (pv 7) (pv 0) (nomark _)))))
 (pss_one (ps_ret pe_str))
 pss_nil))))
 pss_nil)
 (pss_one (ps_ret pe_str))))), ?_⟩
    dsimp only [tSeq, tAsg, gName, tOp, tUn, tTest, tB, tAnd, tOr, tNot, tAndV, tOrV, tNotV, tIf, tIfS, tRet, tRetN, tDrop, tNext, tCons, tNil, tCB, tCall, tMenu, tComp, tComp2, msk, List.zipWith, tMakeS, iZip2, iEnum, tNoIf, tTru, tJoin, cxOf_K, tLst, tTup, tSl, tPart, tNoPart, tBM, tBM0, tChain, tC, tFor_eq, gTup, gCons, gNil, gSub, iList, iRng1, iRng2, iRng3, iTup, tWhile, tRev, tFld, sFld, tMeth, tMethS, tMake, tRaise, tCallS, tTry, tAug, tPar, tNever, ipI, List.append_nil]
    walk_at "st"
    refine i_if (fun g => ?_) (fun g1 => ?_)
    · walk_at "st"
      exact k _ (.inl ⟨fun z => by have := z.1; omega, rfl⟩)
    walk_at "st"
    refine i_if (fun g => ?_) (fun g2 => ?_)
    · walk_at "st"
      exact k _ (.inl ⟨fun z => by have := z.2; omega, rfl⟩)
    have hT0 : okTop top := ⟨by omega, by omega⟩
    walk_at "st"
    refine ⟨⟨_, SqL.of hA⟩, lp_list (xs := ts.map V.ref) (fun i σ H2 => ∃ u4 u5 u6 u7 : Option V, σ = [some (.int top), some (.ref a), some (.ref b), some (.int way), u4, u5, u6, u7] ∧ H = H2 ∧ ∀ s ∈ sws.take i, okS top s) ?_ ?_ ?_ ?_⟩
    · exact ⟨_, _, _, _, rfl, rfl, by simp⟩
    · rintro i σ H2 _ ⟨u4, u5, u6, u7, rfl, rfl, _⟩
      exact SqL.of hA
    · rintro i x σ H2 hx ⟨u4, u5, u6, u7, rfl, rfl, hok⟩
      rw [List.getElem?_map] at hx
      obtain ⟨t, hti, rfl⟩ := Option.map_eq_some_iff.mp hx
      obtain ⟨s, hsi, hTs⟩ := swt_get hT hti
      have hno : ¬ okS top s → Due top sws row way "NoSwitch" := fun hn => .inr (.inl ⟨hT0, fun z => hn (z s (List.mem_of_getElem? hsi)), rfl⟩)
      walk_at "st"
      refine ⟨_, _, rfl, SqT.of hTs, rfl, _, _, rfl, _, _, rfl, _, _, rfl, rfl, ?_⟩
      walk_at "st"
      refine i_if (fun g => ?_) (fun g3 => ?_)
      · walk_at "st"
        exact k _ (hno fun z => by have := z.1; omega)
      walk_at "st"
      refine i_if (fun g => ?_) (fun g4 => ?_)
      · walk_at "st"
        exact k _ (hno fun z => by have := z.2.1; omega)
      walk_at "st"
      refine i_if (fun g => ?_) (fun g5 => ?_)
      · walk_at "st"
        exact k _ (hno fun z => by have := z.2.2; omega)
      refine ⟨_, _, _, _, rfl, rfl, fun z hz => ?_⟩
      rw [take_snoc_get hsi] at hz
      rcases List.mem_append.mp hz with y | y
      · exact hok z y
      · simp at y; subst y; exact ⟨by omega, by omega, by omega⟩
    rintro σ H2 ⟨u4, u5, u6, u7, rfl, rfl, hok⟩
    rw [List.take_of_length_le (by simp; omega)] at hok
    walk_at "st"
    refine ⟨fun σ H3 => ∃ u7 : Option V, σ = [some (.int top), some (.ref a), some (.ref b), some (.int way), u4, u5, u6, u7] ∧ H = H3 ∧ (way = 2 → okRow top row), ?_, ?_⟩
    · walk_at "st"
      refine i_if (fun g => ?_) (fun g3 => ?_)
      · walk_at "st"
        refine ⟨⟨_, SqL.of hB⟩, lp_ints (ns := row) (fun i σ H2 => ∃ u7 : Option V, σ = [some (.int top), some (.ref a), some (.ref b), some (.int way), u4, u5, u6, u7] ∧ H = H2 ∧ ∀ c ∈ row.take i, 0 ≤ c ∧ c ≤ top) ?_ ?_ ?_ ?_⟩
        · exact ⟨_, rfl, rfl, by simp⟩
        · rintro i σ H2 _ ⟨u7, rfl, rfl, _⟩
          exact SqL.of hB
        · rintro i c σ H2 hci ⟨u7, rfl, rfl, hrw⟩
          have hno : ¬ (0 ≤ c ∧ c ≤ top) → Due top sws row way "NoPlace" := fun hn => .inr (.inr (.inl ⟨hT0, hok, g, fun z => hn (z c (List.mem_of_getElem? hci)), rfl⟩))
          walk_at "st"
          refine i_if (fun g => ?_) (fun g4 => ?_)
          · walk_at "st"
            exact k _ (hno (by omega))
          walk_at "st"
          refine i_if (fun g => ?_) (fun g5 => ?_)
          · walk_at "st"
            exact k _ (hno (by omega))
          refine ⟨_, rfl, rfl, fun z hz => ?_⟩
          rw [take_snoc_get hci] at hz
          rcases List.mem_append.mp hz with y | y
          · exact hrw z y
          · simp at y; subst y; exact ⟨by omega, by omega⟩
        · rintro σ H2 ⟨u7, rfl, rfl, hrw⟩
          rw [List.take_of_length_le (by simp)] at hrw
          exact ⟨_, rfl, rfl, fun _ => hrw⟩
      · exact ⟨_, rfl, rfl, fun z => absurd z g3⟩
    rintro σ H3 ⟨u7, rfl, rfl, hrw⟩
    walk_at "st"
    exact k _ (.inr (.inr (.inr ⟨hT0, hok, hrw, rfl⟩)))
--SPLIT
theorem ixN_pos {n : Nat} {k : Int} (h0 : 0 ≤ k) (h1 : k < n) : ixN n k = some k.toNat := by
  unfold ixN
  rw [if_pos h0, if_pos h1]
theorem paired_set {α β : Type} {F : α → β → Prop} {a : α} {b : β} (h : F a b) : ∀ {as : List α} {bs : List β} (i : Nat), Paired F as bs → Paired F (as.set i a) (bs.set i b)
  | _, _, _, .nil => .nil
  | _, _, 0, .cons _ t => .cons h t
  | _, _, i + 1, .cons r t => .cons r (paired_set h i t)
theorem SwT.set {H : Hp} {ts : List Addr} {sws : List Sw} (h : SwT H ts sws) {t : Addr} {s : Sw} (e : H t = some (.tup [.int s.1, .int s.2.1, .int s.2.2])) (i : Nat) : SwT H (ts.set i t) (sws.set i s) := paired_set (F := fun t (s : Sw) => H t = some (.tup [.int s.1, .int s.2.1, .int s.2.2])) e i h
theorem pd_sws {H : Hp} {l : Addr} {ts : List Addr} {sws : List Sw} {n : Nat} (h : H l = some (.lst (ts.map V.ref))) (hT : SwT H ts sws) : PdAt K H (n + 2) (.list (sws.map fun s => .tuple [.int s.1, .int s.2.1, .int s.2.2])) (.ref l) := by
  refine pd_lst (SqL.of h) ?_
  clear h
  induction hT with
  | nil => exact .nil
  | cons r _ ih => exact .cons (pd_tup (SqT.of r) (.cons pd_int (.cons pd_int (.cons pd_int .nil)))) ih
theorem eqv_nilS (ds : List PyData) : PyData.eqv (.list ds) (.list []) = ds.isEmpty := by cases ds <;> simp [PyData.eqv, PyData.eqvAll]
theorem i_neNilS {H : Hp} {Q : VK} {p q : Addr} {ts : List Addr} {sws : List Sw} (h1 : H p = some (.lst (ts.map V.ref))) (hm : SwT H ts sws) (h2 : H q = some (.lst [])) (k : Q (.bl (!sws.isEmpty)) H) : rNeP K (.ref p) (.ref q) H Q := by
  refine ⟨.list (sws.map fun s => .tuple [.int s.1, .int s.2.1, .int s.2.2]), .list [], pd_sws h1 hm, pd_lst (SqL.of h2) .nil, ?_⟩
  rw [eqv_nilS]
  cases sws <;> exact k
def spCase : Sp := fun vs H Q _ => ∃ cell : Int, vs = [.int cell] ∧ ∀ (t lsw lr lp : Addr) (ts : List Addr) (sws : List Sw) (row pk : List Int) (top : Int) (H' : Hp), Same H H' → H' t = some (.tup [.int top, .ref lsw, .ref lr, .ref lp]) → H' lsw = some (.lst (ts.map V.ref)) → SwT H' ts sws → H' lr = some (.lst (iL row)) → H' lp = some (.lst (iL pk)) → sws.length ≤ 12 → row.length = 4 → pk.length = 24 → Q (.ref t) H'
theorem ok_law_case (T : Txt mg) (D : Def K mg "_law_case" s_law_case) (C_law_draws : Callee P w K mg base "_law_draws" 1 spDraws) : Callee P w K mg base "_law_case" 2 spCase := by
  refine D.ok sc_law_case bd_law_case (fun vs H Q E h => ?len) (fun f cdv A outer s H vs Q E hr h => ?body)
  case len => obtain ⟨cell, rfl, _⟩ := h; rfl
  case body =>
    obtain ⟨cell, rfl, k⟩ := h
    have hu := hr.units
    refine ⟨_, (pss_cons (ps_set (i := 1) sc_law_case.nd rfl (Or.inl rfl) (pe_callN C_law_draws (hr.mono (by decide)) (by rfl) (pa_cons (pv 0) (pa_cons pe_int (pa_cons (pe_powK (r := 1000000) (by decide)) pa_nil)))))
 (pss_cons (ps_set (i := 2) sc_law_case.nd rfl (Or.inl rfl) (pe_menu (pa_cons (pe_op op_addP pe_int (pe_op op_mod (pe_ix (ix_K K) (pv 1) pe_int (by exact fun _ _ => rfl)) pe_int)) (pa_cons (pe_op op_sub (pe_op op_mod (pe_ix (ix_K K) (pv 1) pe_int (by exact fun _ _ => rfl)) pe_int) pe_int) pa_nil)) (pe_op op_mod (pe_ix (ix_K K) (pv 1) pe_int (by exact fun _ _ => rfl)) pe_int) (by exact fun _ _ => rfl)))
 (pss_cons (ps_set (i := 3) sc_law_case.nd rfl (Or.inr rfl) (pe_callB (call_maxK K) (by rfl) T.z_max bt_max (pa_cons pe_int (pa_cons (pe_callB (call_minK K) (by rfl) T.z_min bt_min (pa_cons pe_int (pa_cons (pv 2) pa_nil))) pa_nil))))
 (pss_cons (ps_set (i := 4) sc_law_case.nd rfl (Or.inl rfl) (pe_lst pa_nil))
 (pss_cons (ps_for PassesOwn.never rfl (pi_listK K (pe_slice (sl_listK K) (pv 1) (po_some pe_int) (po_some (pe_op op_addP pe_int (pe_op op_mod (pe_ix (ix_K K) (pv 1) pe_int (by exact fun _ _ => rfl)) pe_int))))) (pg_name (i := 5) sc_law_case.nd rfl (Or.inl rfl))
 (pss_cons (ps_set (i := 6) sc_law_case.nd rfl (Or.inl rfl) (pe_op op_mod (pv 5) (pv 3)))
 (pss_one (ps_expr (pe_bmK K PySem.F.plainAttrs_list PySem.F.slot_list_append PySem.F.type_list_append mt_append (pv 4) (pa_cons (pe_tup (pa_cons (pv 6) (pa_cons (pe_op op_addP (pe_op op_addP (pv 6) pe_int) (pe_op op_mod (pe_op op_fdiv (pv 5) pe_int) (pe_op op_sub (pv 3) (pv 6)))) (pa_cons (pe_op op_mod (pv 5) pe_int) pa_nil)))) pa_nil))))))
 (pss_join (ps_if (PW.pt (pw_and (pt_cmpR (op_neK K hu) (pv 4) (pe_lst pa_nil) (nomark _)) (pw_and1 (pt_cmpR (op_eqK K hu) (pe_op op_mod (pe_ix (ix_K K) (pv 1) pe_int (by exact fun _ _ => rfl)) pe_int) pe_int (nomark _)))))
 (pss_cons (ps_set (i := 7) sc_law_case.nd rfl (Or.inl rfl) (pe_op op_mod (pe_ix (ix_K K) (pv 1) pe_int (by exact fun _ _ => rfl)) (pe_callB (call_lenK K) (by rfl) T.z_len bt_len (pa_cons (pv 4) pa_nil))))
 (pss_cons (ps_asg (pe_ix (ix_K K) (pv 4) (pv 7) (by exact fun _ _ => rfl)) (pg_tupK K 3 (pgs_cons (pg_name (i := 6) sc_law_case.nd rfl (Or.inl rfl)) (pgs_cons (pg_name (i := 8) sc_law_case.nd rfl (Or.inl rfl)) (pgs_cons (pg_name (i := 9) sc_law_case.nd rfl (Or.inl rfl)) pgs_nil)))))
 (pss_cons (ps_set (i := 10) sc_law_case.nd rfl (Or.inl rfl) (pe_lst (pa_cons (pe_tup (pa_cons (pe_negK (r := -1) (by decide)) (pa_cons (pv 8) (pa_cons (pv 9) pa_nil)))) (pa_cons (pe_tup (pa_cons (pv 6) (pa_cons (pv 6) (pa_cons (pv 9) pa_nil)))) (pa_cons (pe_tup (pa_cons (pv 8) (pa_cons (pv 6) (pa_cons (pv 9) pa_nil)))) (pa_cons (pe_tup (pa_cons (pv 6) (pa_cons (pe_op op_addP (pv 2) pe_int) (pa_cons (pv 9) pa_nil)))) pa_nil))))))
 (pss_one (ps_asg (pe_ix (ix_K K) (pv 10) (pe_op op_mod (pe_ix (ix_K K) (pv 1) pe_int (by exact fun _ _ => rfl)) pe_int) (by exact fun _ _ => rfl)) (pg_sub (pv 4) (pv 7) set_list))))))
 pss_nil)
 (pss_cons (by exact ps_setC (i := 11) sc_law_case.nd rfl (Or.inl rfl) (N := ["pick", "wide"]) (fr := [none, some 3]) ⟨by rfl, by decide +kernel, by decide +kernel, (show ∀ y ∈ (_ : List (Str × NameKind)), y.2 = NameKind.free → (defScope s_law_case).names.lookup y.1 = some .cell ∨ (defScope s_law_case).names.lookup y.1 = some .free by decide +kernel), (fr_none (fr_some (by rfl) (by first | exact Or.inl rfl | exact Or.inr rfl) (by rfl) fr_nil))⟩ (by rfl) (pi_listK K (pe_slice (sl_listK K) (pv 1) (po_some pe_int) (po_some pe_int))) (fun _ _ _ _ => (pg_name (i := 0) (show List.Nodup (["pick", "wide"] : List Str) by decide) (by rfl) (by first | exact Or.inl rfl | exact Or.inr rfl))) (fun _ _ _ _ => pifs_nil) (fun _ _ _ _ => (pe_op op_mod (pv 0) (pe_op op_addP (pv 1) pe_int))) (gw_name (by rfl)))
 (pss_join (ps_if (pt_cmpR (op_eqK K hu) (pe_op op_mod (pe_ix (ix_K K) (pv 1) pe_int (by exact fun _ _ => rfl)) pe_int) pe_int (nomark _))
 (pss_one (ps_asg (pe_menu (pa_cons (pe_negK (r := -1) (by decide)) (pa_cons (pe_op op_addP (pv 2) pe_int) pa_nil)) (pe_op op_mod (pe_op op_fdiv (pe_ix (ix_K K) (pv 1) pe_int (by exact fun _ _ => rfl)) pe_int) pe_int) (by exact fun _ _ => rfl)) (pg_sub (pv 11) (pe_op op_mod (pe_ix (ix_K K) (pv 1) pe_int (by exact fun _ _ => rfl)) pe_int) set_list)))
 pss_nil)
 (pss_one (ps_ret (pe_tup (pa_cons (pv 2) (pa_cons (pv 4) (pa_cons (pv 11) (pa_cons (pv 1) pa_nil))))))))))))))), ?_⟩
    dsimp only [tSeq, tAsg, gName, tOp, tUn, tTest, tB, tAnd, tOr, tNot, tAndV, tOrV, tNotV, tIf, tIfS, tRet, tRetN, tDrop, tNext, tCons, tNil, tCB, tCall, tMenu, tComp, tComp2, msk, List.zipWith, tMakeS, iZip2, iEnum, tNoIf, tTru, tJoin, cxOf_K, tLst, tTup, tSl, tPart, tNoPart, tBM, tBM0, tChain, tC, tFor_eq, gTup, gCons, gNil, gSub, iList, iRng1, iRng2, iRng3, iTup, tWhile, tRev, tFld, sFld, tMeth, tMethS, tMake, tRaise, tCallS, tTry, tAug, tPar, tNever, ipI, List.append_nil]
    walk_at "st"
    refine ⟨cell, 24, 1000000, rfl, by decide, by decide, by decide, by decide, fun lh H1 pk N1 l1 b1 => ?_⟩
    have it : ∀ {HH : Hp} {Q' : VK} {j : Int}, HH lh = some (.lst (iL pk)) → 0 ≤ j → j < 24 → (∀ v, 0 ≤ v → Q' (.int v) HH) → rIxP K (.ref lh) (.int j) HH Q' := fun hh h0 h1 q => i_ixL (SqL.of hh) h0 (by omega) fun v _ m => q v (b1 v m).1
    walk_at "st"
    refine it N1.at_ (by omega) (by omega) (fun v0 p0 => ?_)
    walk_at "st"
    refine it N1.at_ (by omega) (by omega) (fun v0' p0' => ?_)
    walk_at "st"
    refine it N1.at_ (by omega) (by omega) (fun v1 p1 => ?_)
    walk_at "st"
    refine i_menu2 (Int.emod_nonneg _ (by decide)) (Int.emod_lt_of_pos _ (by decide)) (fun top _ => ?_)
    walk_at "st"
    refine i_min2 (fun m hm => ?_)
    walk_at "st"
    refine i_max2 (fun wide hw => ?_)
    have hw1 : 1 ≤ wide := by omega
    have hw2 : wide ≤ 16 := by omega
    clear hw hm
    walk_at "st"
    intro l hl
    have s2 : Same H _ := N1.sm.trans (same_upd (o := .lst []) hl)
    have hlf : H l = none := N1.sm.free hl
    have hhf : H lh = none := N1.fr
    have e2 : upd H1 l (.lst []) l = some (.lst (([] : List Addr).map V.ref)) := upd_same
    have nlh : lh ≠ l := ne_of_none N1.at_ hl
    have hK2 := same_upd (o := .lst []) hl _ _ N1.at_
    generalize upd H1 l (.lst []) = H2 at *
    clear N1
    walk_at "st"
    refine it hK2 (by omega) (by omega) (fun v2 p2 => ?_)
    walk_at "st"
    have r1 := Int.emod_nonneg v2 (show (13 : Int) ≠ 0 by decide)
    have r2 := Int.emod_lt_of_pos v2 (show (0 : Int) < 13 by decide)
    refine i_slMid (SqL.of hK2) (by decide) (by omega) (fun lz hlz => ?_)
    have hzl : ((pk.drop (6 : Int).toNat).take ((6 + v2 % 13).toNat - (6 : Int).toNat)).length ≤ 12 := by rw [List.length_take]; omega
    generalize (pk.drop (6 : Int).toNat).take ((6 + v2 % 13).toNat - (6 : Int).toNat) = zs at *
    have s3 := s2.trans (same_upd (o := .lst (iL zs)) hlz)
    have e3 := same_upd (o := .lst (iL zs)) hlz _ _ e2
    have hK3 := same_upd (o := .lst (iL zs)) hlz _ _ hK2
    have hZ3 : upd H2 lz (.lst (iL zs)) lz = some (.lst (iL zs)) := upd_same
    have nlz : lz ≠ l := fun z => by rw [z, e2] at hlz; cases hlz
    generalize upd H2 lz (.lst (iL zs)) = H3 at *
    clear s2 e2 hK2 hl hlz r1 r2
    walk_at "st"
    refine ⟨⟨_, SqL.of hZ3⟩, lp_ints (ns := zs) (fun i σ H4 => ∃ (u5 u6 : Option V) (ts : List Addr) (sws : List Sw), σ = [some (.int cell), some (.ref lh), some (.int top), some (.int wide), some (.ref l), u5, u6, none, none, none, none, none] ∧ Same H H4 ∧ H4 l = some (.lst (ts.map V.ref)) ∧ SwT H4 ts sws ∧ H4 lh = some (.lst (iL pk)) ∧ H4 lz = some (.lst (iL zs)) ∧ ts.length = i) ?_ ?_ ?_ ?_⟩
    · exact ⟨_, _, [], [], rfl, s3, e3, .nil, hK3, hZ3, rfl⟩
    · rintro i σ H4 _ ⟨u5, u6, ts, sws, rfl, sm, hL, hT, hK, hZ, hx⟩
      exact SqL.of hZ
    · rintro i x σ H4 hxi ⟨u5, u6, ts, sws, rfl, sm, hL, hT, hK, hZ, hx⟩
      have hil : i < zs.length := (List.getElem?_eq_some_iff.mp hxi).1
      have r1 := Int.emod_nonneg x (show wide ≠ 0 by omega)
      have r2 := Int.emod_lt_of_pos x (show 0 < wide by omega)
      walk_at "st"
      generalize x % wide = lo at *
      refine ⟨.inl ⟨rfl, _, SqL.of hL⟩, ?_⟩
      walk_at "st"
      generalize x / 16 % (wide - lo) = w1 at *
      generalize x % 5 = wt at *
      intro t ht2
      have s5 := same_upd (o := .tup [.int lo, .int (lo + 1 + w1), .int wt]) ht2
      walk_at "st"
      refine i_app (s5 _ _ hL) (szlt (by simp; omega)) ?_
      have ntl : t ≠ l := fun z => by rw [z, hL] at ht2; cases ht2
      have up : ∀ {b : Addr} {o : HO}, H4 b = some o → b ≠ l → upd (upd H4 t (.tup [.int lo, .int (lo + 1 + w1), .int wt])) l (.lst (ts.map V.ref ++ [V.ref t])) b = some o := fun e n => by rw [upd_ne n]; exact s5 _ _ e
      refine ⟨_, _, ts ++ [t], sws ++ [(lo, lo + 1 + w1, wt)], rfl, fun b o e => up (sm b o e) (ne_of_none e hlf), by rw [upd_same]; simp, ?_, up hK nlh, up hZ nlz, by simp; omega⟩
      refine Paired.snoc (Paired.mapP hT fun q s e => up e fun z => by rw [z, hL] at e; cases e) ?_
      rw [upd_ne ntl, upd_same]
    rintro σ H4 ⟨u5, u6, ts, sws, rfl, sm, hL, hT, hK, hZ, hx⟩
    clear hZ hZ3 s3 e3 hK3 nlz
    have hx12 : ts.length ≤ 12 := by omega
    clear hx hzl
    walk_at "st"
    refine ⟨fun σ H5 => ∃ (ts : List Addr) (sws : List Sw) (w6 w7 w8 w9 w10 : Option V), σ = [some (.int cell), some (.ref lh), some (.int top), some (.int wide), some (.ref l), u5, w6, w7, w8, w9, w10, none] ∧ Same H H5 ∧ H5 l = some (.lst (ts.map V.ref)) ∧ SwT H5 ts sws ∧ H5 lh = some (.lst (iL pk)) ∧ ts.length ≤ 12, ?_, ?_⟩
    · walk_at "st"
      intro le hle
      have s5 := same_upd (o := .lst []) hle
      refine i_neNilS (s5 _ _ hL) (hT.more s5) upd_same ?_
      have sm5 := sm.trans s5
      have hL5 := s5 _ _ hL
      have hT5 := hT.more s5
      have hK5 := s5 _ _ hK
      generalize upd H4 le (.lst []) = H5 at *
      clear s5 hle sm hL hT hK
      walk_at "st"
      refine i_ifnb (fun gb => ?_) (fun gb => ?_)
      · have htl : ts.length = sws.length := hT5.length
        have hne : ((ts.map V.ref).length : Int) ≠ 0 := by
          cases sws with
          | nil => simp at gb
          | cons _ _ => rw [List.length_cons] at htl; rw [List.length_map]; omega
        have hpos : 0 < ((ts.map V.ref).length : Int) := by omega
        walk_at "st"
        refine it hK5 (by omega) (by omega) (fun v3 p3 => ?_)
        walk_at "st"
        refine i_if (fun g => ?_) (fun g => ?_)
        · walk_at "st"
          refine it hK5 (by omega) (by omega) (fun v4 p4 => ?_)
          walk_at "st"
          refine i_len (SqL.of hL5) ?_
          walk_at "st"
          have f1 := Int.emod_nonneg v4 hne
          have f2 := Int.emod_lt_of_pos v4 hpos
          generalize v4 % ((ts.map V.ref).length : Int) = at_ at *
          have f2' : at_ < ts.length := by simpa using f2
          obtain ⟨tq, htq⟩ : ∃ tq, ts[at_.toNat]? = some tq := ⟨_, List.getElem?_eq_getElem (by omega)⟩
          obtain ⟨s, hsi, hTs⟩ := swt_get hT5 htq
          refine i_ixN (SqL.of hL5) f1 (v := .ref tq) (by rw [List.getElem?_map, htq]; rfl) ?_
          walk_at "st"
          refine ⟨_, _, rfl, SqT.of hTs, rfl, _, _, rfl, _, _, rfl, _, _, rfl, rfl, ?_⟩
          walk_at "st"
          intro t0 h0
          have z0 : Same H5 _ := same_upd (o := .tup [.int (-1), .int s.2.1, .int s.2.2]) h0
          have c0 : upd H5 t0 (.tup [.int (-1), .int s.2.1, .int s.2.2]) t0 = some (.tup [.int (-1), .int s.2.1, .int s.2.2]) := upd_same
          generalize upd H5 t0 (.tup [.int (-1), .int s.2.1, .int s.2.2]) = J0 at *
          walk_at "st"
          intro t1 h1
          have z1 : Same J0 _ := same_upd (o := .tup [.int s.1, .int s.1, .int s.2.2]) h1
          have c1 : upd J0 t1 (.tup [.int s.1, .int s.1, .int s.2.2]) t1 = some (.tup [.int s.1, .int s.1, .int s.2.2]) := upd_same
          generalize upd J0 t1 (.tup [.int s.1, .int s.1, .int s.2.2]) = J1 at *
          walk_at "st"
          intro t2 h2
          have z2 : Same J1 _ := same_upd (o := .tup [.int s.2.1, .int s.1, .int s.2.2]) h2
          have c2 : upd J1 t2 (.tup [.int s.2.1, .int s.1, .int s.2.2]) t2 = some (.tup [.int s.2.1, .int s.1, .int s.2.2]) := upd_same
          generalize upd J1 t2 (.tup [.int s.2.1, .int s.1, .int s.2.2]) = J2 at *
          walk_at "st"
          intro t3 h3
          have z3 : Same J2 _ := same_upd (o := .tup [.int s.1, .int (top + 1), .int s.2.2]) h3
          have c3 : upd J2 t3 (.tup [.int s.1, .int (top + 1), .int s.2.2]) t3 = some (.tup [.int s.1, .int (top + 1), .int s.2.2]) := upd_same
          generalize upd J2 t3 (.tup [.int s.1, .int (top + 1), .int s.2.2]) = J3 at *
          walk_at "st"
          intro lo hlo
          have z4 : Same J3 _ := same_upd (o := .lst [.ref t0, .ref t1, .ref t2, .ref t3]) hlo
          have eo : upd J3 lo (.lst [.ref t0, .ref t1, .ref t2, .ref t3]) lo = some (.lst ([t0, t1, t2, t3].map V.ref)) := upd_same
          have hO : SwT (upd J3 lo (.lst [.ref t0, .ref t1, .ref t2, .ref t3])) [t0, t1, t2, t3] [(-1, s.2.1, s.2.2), (s.1, s.1, s.2.2), (s.2.1, s.1, s.2.2), (s.1, top + 1, s.2.2)] := .cons (z4 _ _ (z3 _ _ (z2 _ _ (z1 _ _ c0)))) (.cons (z4 _ _ (z3 _ _ (z2 _ _ c1))) (.cons (z4 _ _ (z3 _ _ c2)) (.cons (z4 _ _ c3) .nil)))
          generalize upd J3 lo (.lst [.ref t0, .ref t1, .ref t2, .ref t3]) = J4 at *
          have zA : Same H5 J4 := (((z0.trans z1).trans z2).trans z3).trans z4
          clear z0 z1 z2 z3 z4 c0 c1 c2 c3 h0 h1 h2 h3 hlo
          walk_at "st"
          refine it (zA _ _ hK5) (by omega) (by omega) (fun v5 p5 => ?_)
          walk_at "st"
          have f3 := Int.emod_nonneg v5 (show (4 : Int) ≠ 0 by decide)
          have f4 := Int.emod_lt_of_pos v5 (show (0 : Int) < 4 by decide)
          generalize v5 % 4 = jq at *
          obtain ⟨tz, htz⟩ : ∃ tz, [t0, t1, t2, t3][jq.toNat]? = some tz := ⟨_, List.getElem?_eq_getElem (by simp; omega)⟩
          obtain ⟨mz, hmz, hZm⟩ := swt_get hO htz
          refine i_ixN (SqL.of eo) f3 (v := .ref tz) (by rw [List.getElem?_map, htz]; rfl) ?_
          walk_at "st"
          refine ⟨l, _, at_, at_.toNat, rfl, rfl, zA _ _ hL5, ixN_pos f1 (by simp; omega), ?_⟩
          have hTA := hT5.more zA
          have upp : ∀ {b : Addr} {o : HO}, J4 b = some o → b ≠ l → upd J4 l (.lst ((ts.map V.ref).set at_.toNat (.ref tz))) b = some o := fun e n => by rw [upd_ne n]; exact e
          refine ⟨ts.set at_.toNat tz, sws.set at_.toNat mz, _, _, _, _, _, rfl, fun b o e => upp (zA _ _ (sm5 b o e)) (ne_of_none e hlf), by rw [upd_same, List.map_set], ?_, upp (zA _ _ hK5) nlh, by simpa using hx12⟩
          have hLA := zA _ _ hL5
          have hTB : SwT (upd J4 l (.lst ((ts.map V.ref).set at_.toNat (.ref tz)))) ts sws := Paired.mapP hTA fun q s e => upp e fun z => by rw [z, hLA] at e; cases e
          exact SwT.set hTB (upp hZm fun z => by rw [z, hLA] at hZm; cases hZm) at_.toNat
        · exact ⟨ts, sws, _, _, _, _, _, rfl, sm5, hL5, hT5, hK5, hx12⟩
      · exact ⟨ts, sws, _, _, _, _, _, rfl, sm5, hL5, hT5, hK5, hx12⟩
    clear sm hL hT hK hx12
    rintro σ H5 ⟨ts, sws, w6, w7, w8, w9, w10, rfl, sm, hL, hT, hK, hx12⟩
    have htl : ts.length = sws.length := hT.length
    walk_at "st"
    refine i_slMid (SqL.of hK) (by decide) (by decide) (fun lz hlz => ?_)
    have hzl : ((pk.drop (18 : Int).toNat).take ((22 : Int).toNat - (18 : Int).toNat)).length = 4 := by rw [List.length_take, List.length_drop]; omega
    generalize (pk.drop (18 : Int).toNat).take ((22 : Int).toNat - (18 : Int).toNat) = zs at *
    have s6 := same_upd (o := .lst (iL zs)) hlz
    have hZ : upd H5 lz (.lst (iL zs)) lz = some (.lst (iL zs)) := upd_same
    generalize upd H5 lz (.lst (iL zs)) = H6 at *
    walk_at "st"
    refine ⟨⟨_, SqL.of hZ⟩, cp_list (xs := iL zs) (fun i ys H7 => ∃ js : List Int, ys = iL js ∧ js.length = i ∧ H6 = H7) ⟨[], rfl, rfl, rfl⟩ ?_ (szlt (by simp [iL]; omega)) ?_ ?_⟩
    · rintro i ys H7 ⟨js, rfl, hj, rfl⟩
      exact ⟨SqL.of hZ, by simp [iL]; omega⟩
    · rintro i y ys H7 hy ⟨js, rfl, hj, rfl⟩
      rw [List.getElem?_map] at hy
      obtain ⟨c, hci, rfl⟩ := Option.map_eq_some_iff.mp hy
      walk_at "st"
      exact ⟨js ++ [c % (wide + 1)], by simp [iL], by simp; omega, rfl⟩
    rintro lr ys H7 ⟨js, rfl, hj, rfl⟩ hlr
    have hj4 : js.length = 4 := by simp [iL] at hj; omega
    have s7 := s6.trans (same_upd (o := .lst (iL js)) hlr)
    have hR : upd H6 lr (.lst (iL js)) lr = some (.lst (iL js)) := upd_same
    have frl : H5 lr = none := s6.free hlr
    have frH : H lr = none := sm.free frl
    generalize upd H6 lr (.lst (iL js)) = H7 at *
    clear hlr hZ s6 hlz
    have nRl : l ≠ lr := ne_of_none hL frl
    have nRh : lh ≠ lr := ne_of_none hK frl
    have nRt : ∀ {q : Addr} {o : HO}, H5 q = some o → q ≠ lr := fun e => ne_of_none e frl
    walk_at "st"
    refine ⟨fun σ H8 => ∃ row : List Int, σ = [some (.int cell), some (.ref lh), some (.int top), some (.int wide), some (.ref l), u5, w6, w7, w8, w9, w10, some (.ref lr)] ∧ Same H5 H8 ∧ H8 lr = some (.lst (iL row)) ∧ row.length = 4, ?_, ?_⟩
    · walk_at "st"
      refine it (s7 _ _ hK) (by omega) (by omega) (fun v6 p6 => ?_)
      walk_at "st"
      refine i_if (fun g => ?_) (fun g => ?_)
      · walk_at "st"
        refine it (s7 _ _ hK) (by omega) (by omega) (fun v7 p7 => ?_)
        walk_at "st"
        refine i_menu2 (Int.emod_nonneg _ (by decide)) (Int.emod_lt_of_pos _ (by decide)) (fun bad _ => ?_)
        walk_at "st"
        refine it (s7 _ _ hK) (by omega) (by omega) (fun v8 p8 => ?_)
        walk_at "st"
        have f3 := Int.emod_nonneg v8 (show (4 : Int) ≠ 0 by decide)
        have f4 := Int.emod_lt_of_pos v8 (show (0 : Int) < 4 by decide)
        generalize v8 % 4 = jq at *
        refine ⟨lr, _, jq, jq.toNat, rfl, rfl, hR, ixN_pos f3 (by simp [iL]; omega), ?_⟩
        refine ⟨js.set jq.toNat bad, rfl, fun b o e => by rw [upd_ne (nRt e)]; exact s7 b o e, by rw [upd_same]; simp [iL, List.map_set], by simpa using hj4⟩
      · exact ⟨js, rfl, s7, hR, hj4⟩
    rintro σ H8 ⟨row, rfl, s8, hR8, hr4⟩
    walk_at "st"
    intro t9 h9
    have s9 := same_upd (o := .tup [.int top, .ref l, .ref lr, .ref lh]) h9
    have S9 := s8.trans s9
    exact k t9 l lr lh ts sws row pk top _ (sm.trans S9) upd_same (S9 _ _ hL) (hT.more S9) (s9 _ _ hR8) (S9 _ _ hK) (by omega) hr4 (by omega)
--SPLIT
theorem pd_bls {H : Hp} {l : Addr} {bs : List Bool} {n : Nat} (h : H l = some (.lst (bL bs))) : PdAt K H (n + 1) (.list (bs.map PyData.bool)) (.ref l) := by
  refine pd_lst (SqL.of h) ?_
  clear h
  induction bs with
  | nil => exact .nil
  | cons b bs ih => exact .cons pd_bl ih
theorem i_menuK {H : Hp} {Q : VK} {x y : Addr} {d : Str} (hx : H x = some (.lst [])) (hy : H y = some (.lst (bL (dueX d)))) (q : ∀ z, H z = some (.lst (bL (kinL d))) → Q (.ref z) H) : rMenu [.ref x, .ref y] (.int (if (!(d == "")) = true then 1 else 0)) H Q := by
  by_cases h : (d == "") = true
  · rw [if_neg (by rw [h]; simp)]
    exact ⟨0, _, rfl, rfl, q x (by rw [hx]; unfold kinL; rw [if_pos h]; rfl)⟩
  · rw [if_pos (by simpa using h)]
    exact ⟨1, _, rfl, rfl, q y (by rw [hy]; unfold kinL; rw [if_neg h])⟩
theorem ok_law {f : Addr} {fd : FuncData} (F : Fun K "law" "law" s_law f fd) (T : Txt mg) (Z : Cls K mg) (Y : Own K mg) (C_law_case : Callee P w K mg base "_law_case" 2 spCase) (C_law_a_due : Callee P w K mg base "_law_a_due" 1 spADue) (C_law_asked : Callee P w K mg base "_law_asked" 10 spAsked) (C_law_due_kin : Callee P w K mg base "_law_due_kin" 1 spDueKinG) :
    FnOk P w K mg base CX0 11 f fd ["script"] (spLaw K) := by
  refine F.ok sc_law (fun vs H Q E h => ?_) (fun cdv A outer s H vs Q E hr h => ?_)
  · obtain ⟨a, ns, rfl, _⟩ := h
    rfl
  · obtain ⟨a, ns, rfl, hS, hlen, k⟩ := h
    have hu := hr.units
    refine ⟨_, (pss_cons (ps_set (i := 1) sc_law.nd rfl (Or.inl rfl) (pe_slice (sl_listK K) (pv 0) po_none (po_some pe_int)))
 (pss_join (ps_if (pt_cmpR (op_eqK K hu) (pv 1) (pe_lst pa_nil) (nomark _))
 (pss_one (ps_set (i := 1) sc_law.nd rfl (Or.inl rfl) (pe_lst (pa_cons pe_int pa_nil))))
 pss_nil)
 (pss_cons (ps_for PassesOwn.never rfl (pi_listK K (pv 1)) (pg_name (i := 2) sc_law.nd rfl (Or.inl rfl))
 (pss_cons (ps_asg (pe_callN C_law_case (hr.mono (by decide)) (by rfl) (pa_cons (pv 2) pa_nil)) (pg_tupK K 4 (pgs_cons (pg_name (i := 3) sc_law.nd rfl (Or.inl rfl)) (pgs_cons (pg_name (i := 4) sc_law.nd rfl (Or.inl rfl)) (pgs_cons (pg_name (i := 5) sc_law.nd rfl (Or.inl rfl)) (pgs_cons (pg_name (i := 6) sc_law.nd rfl (Or.inl rfl)) pgs_nil))))))
 (pss_cons (ps_for PassesOwn.never rfl (pi_range1 (by rfl) T.z_range (pa_cons pe_int pa_nil)) (pg_name (i := 7) sc_law.nd rfl (Or.inl rfl))
 (pss_cons (ps_set (i := 8) sc_law.nd rfl (Or.inl rfl) (pe_callN C_law_a_due (hr.mono (by decide)) (by rfl) (pa_cons (pv 3) (pa_cons (pv 4) (pa_cons (pv 5) (pa_cons (pv 7) pa_nil))))))
 (pss_cons (ps_set (i := 9) sc_law.nd rfl (Or.inl rfl) (pe_tup (pa_cons (pe_callTy (call_listK K) (by rfl) T.z_list bt_list (pa_cons (pv 4) pa_nil)) (pa_cons (pe_callTy (call_listK K) (by rfl) T.z_list bt_list (pa_cons (pv 5) pa_nil)) pa_nil))))
 (pss_cons (ps_set (i := 10) sc_law.nd rfl (Or.inl rfl) (pe_callN C_law_asked (hr.mono (by decide)) (by rfl) (pa_cons (pv 3) (pa_cons (pe_ix (ix_K K) (pv 9) pe_int (by exact fun _ _ => rfl)) (pa_cons (pe_ix (ix_K K) (pv 9) pe_int (by exact fun _ _ => rfl)) (pa_cons (pv 7) pa_nil))))))
 (pss_cons (ps_if (pt_cmpR (op_neK K hu) (pv 10) (pe_menu (pa_cons (pe_lst pa_nil) (pa_cons (pe_callN C_law_due_kin (hr.mono (by decide)) (by rfl) (pa_cons (pv 8) pa_nil)) pa_nil)) (pe_callTy call_intK (by rfl) T.z_int bt_int (pa_cons (pe_cmpR (op_neK K hu) (pv 8) pe_str (nomark _)) pa_nil)) (by exact fun _ _ => rfl)) (nomark _))
 (pss_one (ps_ret pe_bl))
 pss_nil)
 (pss_one (ps_if (pt_cmpR (op_neK K hu) (pv 9) (pe_tup (pa_cons (pv 4) (pa_cons (pv 5) pa_nil))) (nomark _))
 (pss_one (ps_ret pe_bl))
 pss_nil)))))))
 (pss_cons (ps_set (i := 11) sc_law.nd rfl (Or.inl rfl) (pe_op op_sub (pe_op op_mod (pe_ix (ix_K K) (pv 6) pe_int (by exact fun _ _ => rfl)) pe_int) pe_int))
 (pss_cons (ps_set (i := 12) sc_law.nd rfl (Or.inl rfl) (pe_op op_sub (pe_op op_mod (pe_ix (ix_K K) (pv 6) pe_int (by exact fun _ _ => rfl)) pe_int) pe_int))
 (pss_join (ps_set (i := 8) sc_law.nd rfl (Or.inl rfl) (pe_callTy call_intK (by rfl) T.z_int bt_int (pa_cons (pe_or (pe_cmpR op_lt (pv 11) pe_int (nomark _)) (pe_one (pe_cmpR op_le (pv 12) (pv 11) (nomark _)))) pa_nil)))
 (pss_one (ps_if (pt_cmpR (op_neK K hu) (pe_callN C_law_asked (hr.mono (by decide)) (by rfl) (pa_cons (pv 11) (pa_cons (pe_lst pa_nil) (pa_cons (pv 12) (pa_cons pe_int pa_nil))))) (pe_menu (pa_cons (pe_lst pa_nil) (pa_cons (pe_callN C_law_due_kin (hr.mono (by decide)) (by rfl) (pa_cons pe_str pa_nil)) pa_nil)) (pv 8) (by exact fun _ _ => rfl)) (nomark _))
 (pss_one (ps_ret pe_bl))
 pss_nil))))))))
 (pss_one (ps_ret pe_bl))))), ?_⟩
    dsimp only [tSeq, tAsg, gName, tOp, tUn, tTest, tB, tAnd, tOr, tNot, tAndV, tOrV, tNotV, tIf, tIfS, tRet, tRetN, tDrop, tNext, tCons, tNil, tCB, tCall, tMenu, tComp, tComp2, msk, List.zipWith, tMakeS, iZip2, iEnum, tNoIf, tTru, tJoin, cxOf_K, tLst, tTup, tSl, tPart, tNoPart, tBM, tBM0, tChain, tC, tFor_eq, gTup, gCons, gNil, gSub, iList, iRng1, iRng2, iRng3, iTup, tWhile, tRev, tFld, sFld, tMeth, tMethS, tMake, tRaise, tCallS, tTry, tAug, tPar, tNever, ipI, List.append_nil]
    walk_at "st"
    refine i_slTo hS (by decide) (fun l1 hl1 => ?_)
    have e1 : upd H l1 (.lst (iL (ns.take (16 : Int).toNat))) l1 = some (.lst (iL (ns.take (16 : Int).toNat))) := upd_same
    generalize upd H l1 (.lst (iL (ns.take (16 : Int).toNat))) = H1 at *
    generalize ns.take (16 : Int).toNat = cs0 at *
    walk_at "st"
    refine ⟨fun σ H2 => ∃ (lc : Addr) (cs : List Int), σ = [some (.ref a), some (.ref lc), none, none, none, none, none, none, none, none, none, none, none] ∧ H2 lc = some (.lst (iL cs)), ?_, ?_⟩
    · walk_at "st"
      intro l2 hl2
      refine i_eqL (ys := []) (SqL.of (same_upd hl2 _ _ e1)) (SqL.of upd_same) ?_
      walk_at "st"
      refine i_ifb (fun _ => ?_) (fun _ => ?_)
      · walk_at "st"
        intro l3 hl3
        walk_at "st"
        exact ⟨l3, [0], rfl, upd_same⟩
      · exact ⟨l1, cs0, rfl, same_upd hl2 _ _ e1⟩
    rintro σ H2 ⟨lc, cs, rfl, e2⟩
    clear e1
    walk_at "st"
    refine ⟨⟨_, SqL.of e2⟩, lp_ints (ns := cs) (fun i σ H3 => ∃ (u2 u3 u4 u5 u6 u7 u8 u9 u10 u11 u12 : Option V), σ = [some (.ref a), some (.ref lc), u2, u3, u4, u5, u6, u7, u8, u9, u10, u11, u12] ∧ H3 lc = some (.lst (iL cs))) ?_ ?_ ?_ ?_⟩
    · exact ⟨_, _, _, _, _, _, _, _, _, _, _, rfl, e2⟩
    · rintro i σ H3 _ ⟨u2, u3, u4, u5, u6, u7, u8, u9, u10, u11, u12, rfl, e3⟩
      exact SqL.of e3
    · clear e2
      rintro i cell σ H3 _ ⟨u2, u3, u4, u5, u6, u7, u8, u9, u10, u11, u12, rfl, e3⟩
      walk_at "st"
      refine ⟨cell, rfl, fun t0 lsw lr lp ts sws row pk top H4 s4 e0 hL hT hR hP hsl hrl hpl => ?_⟩
      have e4 := s4 _ _ e3
      clear s4 e3
      walk_at "st"
      refine ⟨_, _, rfl, SqT.of e0, rfl, _, _, rfl, _, _, rfl, _, _, rfl, _, _, rfl, rfl, ?_⟩
      walk_at "st"
      refine ⟨by omega, by omega, lp_range (fun i σ H5 => ∃ (u7 u8 u9 u10 : Option V), σ = [some (.ref a), some (.ref lc), some (.int cell), some (.int top), some (.ref lsw), some (.ref lr), some (.ref lp), u7, u8, u9, u10, u11, u12] ∧ Same H4 H5) ?_ ?_ ?_⟩
      · exact ⟨_, _, _, _, rfl, Same.refl _⟩
      · rintro j σ H5 hj ⟨u7, u8, u9, u10, rfl, S5⟩
        have hj5 : j < 5 := hj
        replace hL := S5 _ _ hL
        replace hT := hT.more S5
        replace hR := S5 _ _ hR
        walk_at "st"
        refine ⟨lsw, lr, ts, sws, top, row, _, rfl, hL, hT, hR, fun d hd => ?_⟩
        walk_at "st"
        refine i_listL (SqL.of hL) (fun l5 hl5 => ?_)
        have s5 : Same H5 _ := same_upd (o := .lst (ts.map V.ref)) hl5
        have e5 : upd H5 l5 (.lst (ts.map V.ref)) l5 = some (.lst (ts.map V.ref)) := upd_same
        generalize upd H5 l5 (.lst (ts.map V.ref)) = H6 at *
        walk_at "st"
        refine i_listL (SqL.of (s5 _ _ hR)) (fun l6 hl6 => ?_)
        have s6 : Same H6 _ := same_upd (o := .lst (iL row)) hl6
        have e6 : upd H6 l6 (.lst (iL row)) l6 = some (.lst (iL row)) := upd_same
        generalize upd H6 l6 (.lst (iL row)) = H7 at *
        walk_at "st"
        intro th hth
        have s7 : Same H7 _ := same_upd (o := .tup [.ref l5, .ref l6]) hth
        have e7 : upd H7 th (.tup [.ref l5, .ref l6]) th = some (.tup [.ref l5, .ref l6]) := upd_same
        generalize upd H7 th (.tup [.ref l5, .ref l6]) = H8 at *
        have S8 := s5.trans (s6.trans s7)
        replace e5 := s7 _ _ (s6 _ _ e5)
        replace e6 := s7 _ _ e6
        replace hL := S8 _ _ hL
        replace hT := hT.more S8
        replace hR := S8 _ _ hR
        have SA := S5.trans S8
        clear S5 s5 s6 s7 S8 hl5 hl6 hth
        walk_at "st"
        refine i_ixT (SqT.of e7) (by decide) (v := .ref l5) rfl ?_
        walk_at "st"
        refine i_ixT (SqT.of e7) (by decide) (v := .ref l6) rfl ?_
        walk_at "st"
        refine ⟨top, _, .ref l5, .ref l6, fun bs => bs = kinL d, rfl, .inl ⟨by omega, by omega, l5, l6, ts, sws, row, rfl, rfl, e5, hT, e6, by omega, by omega, fun d' hd' => by rw [hd'.uniq hd]⟩, fun lk bs H9 s9 ek hbs => ?_⟩
        subst hbs
        replace e5 := s9 _ _ e5
        replace e6 := s9 _ _ e6
        replace e7 := s9 _ _ e7
        replace hL := s9 _ _ hL
        replace hT := hT.more s9
        replace hR := s9 _ _ hR
        replace SA := SA.trans s9
        clear s9
        walk_at "st"
        intro l9 h9
        have s10 : Same H9 _ := same_upd (o := .lst []) h9
        have e9 : upd H9 l9 (.lst []) l9 = some (.lst []) := upd_same
        generalize upd H9 l9 (.lst []) = H10 at *
        walk_at "st"
        refine ⟨d, rfl, hd.strOk, fun l11 H11 s11 e11 => ?_⟩
        walk_at "st"
        refine i_neS hd.strOk (by decide +kernel) ?_
        walk_at "st"
        refine i_menuK (s11 _ _ e9) e11 (fun z hz => ?_)
        have sB := s10.trans s11
        walk_at "st"
        refine i_neSame (.list ((kinL d).map PyData.bool)) (pd_bls (sB _ _ ek)) (pd_bls hz) ?_
        replace e5 := sB _ _ e5
        replace e6 := sB _ _ e6
        replace e7 := sB _ _ e7
        replace hL := sB _ _ hL
        replace hT := hT.more sB
        replace hR := sB _ _ hR
        replace SA := SA.trans sB
        clear sB s10 s11 e9 e11 hz ek h9
        walk_at "st"
        intro t10 h10
        have s10 : Same H11 _ := same_upd (o := .tup [.ref lsw, .ref lr]) h10
        have e10 : upd H11 t10 (.tup [.ref lsw, .ref lr]) t10 = some (.tup [.ref lsw, .ref lr]) := upd_same
        generalize upd H11 t10 (.tup [.ref lsw, .ref lr]) = H12 at *
        refine i_neSame (.tuple [.list (sws.map fun s => .tuple [.int s.1, .int s.2.1, .int s.2.2]), pL row]) (pd_tup (SqT.of (s10 _ _ e7)) (.cons (pd_sws (s10 _ _ e5) (hT.more s10)) (.cons (pd_ints (SqL.of (s10 _ _ e6))) .nil))) (pd_tup (SqT.of e10) (.cons (pd_sws (s10 _ _ hL) (hT.more s10)) (.cons (pd_ints (SqL.of (s10 _ _ hR))) .nil))) ?_
        walk_at "st"
        exact ⟨_, _, _, _, rfl, SA.trans s10⟩
      rintro σ H5 ⟨u7, u8, u9, u10, rfl, S5⟩
      replace e4 := S5 _ _ e4
      replace hP := S5 _ _ hP
      clear hL hT hR S5 e0
      walk_at "st"
      refine i_ixL (SqL.of hP) (by omega) (by omega) (fun v2 _ _ => ?_)
      walk_at "st"
      refine i_ixL (SqL.of hP) (by omega) (by omega) (fun v3 _ _ => ?_)
      walk_at "st"
      generalize v2 % 5 - 2 = lo at *
      generalize v3 % 5 - 1 = hi at *
      refine ⟨fun σ H6 => ∃ n : Int, σ = [some (.ref a), some (.ref lc), some (.int cell), some (.int top), some (.ref lsw), some (.ref lr), some (.ref lp), u7, some (.int n), u9, u10, some (.int lo), some (.int hi)] ∧ H5 = H6 ∧ ((0 ≤ lo ∧ lo < hi ∧ n = 0) ∨ (¬ (0 ≤ lo ∧ lo < hi) ∧ n = 1)), ?_, ?_⟩
      · walk_at "st"
        refine i_if (fun g => ?_) (fun g => ?_)
        · walk_at "st"
          exact ⟨rfl, .inr ⟨by omega, rfl⟩⟩
        · walk_at "st"
          by_cases g2 : hi ≤ lo
          · rw [decide_eq_true g2]
            exact ⟨rfl, .inr ⟨by omega, rfl⟩⟩
          · rw [decide_eq_false g2]
            exact ⟨rfl, .inl ⟨by omega, by omega, rfl⟩⟩
      rintro σ H6 ⟨n, rfl, rfl, hn⟩
      walk_at "st"
      intro l3 h3
      have s3 : Same H5 _ := same_upd (o := .lst []) h3
      generalize upd H5 l3 (.lst []) = H6 at *
      walk_at "st"
      refine ⟨lo, 5, .ref l3, .int hi, fun bs => bs = if n = 0 then [] else dueX "NoSwitch", rfl, .inr ⟨by decide, hi, rfl, fun h => by rw [if_pos (by omega)], fun h => by rw [if_neg (by omega)]⟩, fun lk bs H7 s7 ek hbs => ?_⟩
      walk_at "st"
      intro l4 h4
      have s8 : Same H7 _ := same_upd (o := .lst []) h4
      have e8 : upd H7 l4 (.lst []) l4 = some (.lst []) := upd_same
      generalize upd H7 l4 (.lst []) = H8 at *
      walk_at "st"
      refine ⟨"NoSwitch", rfl, by decide +kernel, fun l11 H11 s11 e11 => ?_⟩
      have hm : ∀ {Q' : VK}, (∀ z, H11 z = some (.lst (bL bs)) → Q' (.ref z) H11) → rMenu [.ref l4, .ref l11] (.int n) H11 Q' := fun q => by
        rcases hn with ⟨_, _, rfl⟩ | ⟨_, rfl⟩
        · refine ⟨0, _, rfl, rfl, q l4 ?_⟩
          rw [hbs, if_pos rfl]
          exact s11 _ _ e8
        · refine ⟨1, _, rfl, rfl, q l11 ?_⟩
          rw [hbs, if_neg (by decide)]
          exact e11
      walk_at "st"
      refine hm (fun z hz => ?_)
      walk_at "st"
      refine i_neSame (.list (bs.map PyData.bool)) (pd_bls (s11 _ _ (s8 _ _ ek))) (pd_bls hz) ?_
      walk_at "st"
      exact ⟨_, _, _, _, _, _, _, _, _, _, _, rfl, (s3.trans (s7.trans (s8.trans s11))) _ _ e4⟩
    rintro σ H3 ⟨u2, u3, u4, u5, u6, u7, u8, u9, u10, u11, u12, rfl, e3⟩
    walk_at "st"
    exact k _
end
theorem all_mk {l : PySem.W.OpenLaw} {w : World} {K : PySem.W.Frag} {h : Heap} {mg : Str → Option Value} {fa : Addr} (X : K.In h) (G : h.Ns mainGlobals mg) (hfa : mg "law" = some (.ref fa))
    {c_Switch : Addr}
    {c_Box : Addr}
    {f_law_draws : Addr} {od_law_draws an_law_draws : Option Addr} {sl_law_draws : Array (Option Value)} {oc_law_draws kV_law_draws dc_law_draws pm_law_draws cd_law_draws ct_law_draws : Value}
    {f_law_a_kin : Addr} {od_law_a_kin an_law_a_kin : Option Addr} {sl_law_a_kin : Array (Option Value)} {oc_law_a_kin kV_law_a_kin dc_law_a_kin pm_law_a_kin cd_law_a_kin ct_law_a_kin : Value}
    {f_law_due_kin : Addr} {od_law_due_kin an_law_due_kin : Option Addr} {sl_law_due_kin : Array (Option Value)} {oc_law_due_kin kV_law_due_kin dc_law_due_kin pm_law_due_kin cd_law_due_kin ct_law_due_kin : Value}
    {f_refuse_no_top : Addr} {od_refuse_no_top an_refuse_no_top : Option Addr} {sl_refuse_no_top : Array (Option Value)} {oc_refuse_no_top kV_refuse_no_top dc_refuse_no_top pm_refuse_no_top cd_refuse_no_top ct_refuse_no_top : Value}
    {f_refuse_no_place : Addr} {od_refuse_no_place an_refuse_no_place : Option Addr} {sl_refuse_no_place : Array (Option Value)} {oc_refuse_no_place kV_refuse_no_place dc_refuse_no_place pm_refuse_no_place cd_refuse_no_place ct_refuse_no_place : Value}
    {f_Switch___init__ : Addr} {od_Switch___init__ an_Switch___init__ : Option Addr} {sl_Switch___init__ : Array (Option Value)} {oc_Switch___init__ kV_Switch___init__ dc_Switch___init__ pm_Switch___init__ cd_Switch___init__ ct_Switch___init__ : Value}
    {f_Switch_turn : Addr} {od_Switch_turn an_Switch_turn : Option Addr} {sl_Switch_turn : Array (Option Value)} {oc_Switch_turn kV_Switch_turn dc_Switch_turn pm_Switch_turn cd_Switch_turn ct_Switch_turn : Value}
    {f_Switch_on : Addr} {od_Switch_on an_Switch_on : Option Addr} {sl_Switch_on : Array (Option Value)} {oc_Switch_on kV_Switch_on dc_Switch_on pm_Switch_on cd_Switch_on ct_Switch_on : Value}
    {f_switch_within : Addr} {od_switch_within an_switch_within : Option Addr} {sl_switch_within : Array (Option Value)} {oc_switch_within kV_switch_within dc_switch_within pm_switch_within cd_switch_within ct_switch_within : Value}
    {f_Box___init__ : Addr} {od_Box___init__ an_Box___init__ : Option Addr} {sl_Box___init__ : Array (Option Value)} {oc_Box___init__ kV_Box___init__ dc_Box___init__ pm_Box___init__ cd_Box___init__ ct_Box___init__ : Value}
    {f_Box_lit : Addr} {od_Box_lit an_Box_lit : Option Addr} {sl_Box_lit : Array (Option Value)} {oc_Box_lit kV_Box_lit dc_Box_lit pm_Box_lit cd_Box_lit ct_Box_lit : Value}
    {f_Box_answer : Addr} {od_Box_answer an_Box_answer : Option Addr} {sl_Box_answer : Array (Option Value)} {oc_Box_answer kV_Box_answer dc_Box_answer pm_Box_answer cd_Box_answer ct_Box_answer : Value}
    {f_Box_turn : Addr} {od_Box_turn an_Box_turn : Option Addr} {sl_Box_turn : Array (Option Value)} {oc_Box_turn kV_Box_turn dc_Box_turn pm_Box_turn cd_Box_turn ct_Box_turn : Value}
    {f_Box_anew : Addr} {od_Box_anew an_Box_anew : Option Addr} {sl_Box_anew : Array (Option Value)} {oc_Box_anew kV_Box_anew dc_Box_anew pm_Box_anew cd_Box_anew ct_Box_anew : Value}
    {f_first_return : Addr} {od_first_return an_first_return : Option Addr} {sl_first_return : Array (Option Value)} {oc_first_return kV_first_return dc_first_return pm_first_return cd_first_return ct_first_return : Value}
    {f_returns_of : Addr} {od_returns_of an_returns_of : Option Addr} {sl_returns_of : Array (Option Value)} {oc_returns_of kV_returns_of dc_returns_of pm_returns_of cd_returns_of ct_returns_of : Value}
    {f_answers_of : Addr} {od_answers_of an_answers_of : Option Addr} {sl_answers_of : Array (Option Value)} {oc_answers_of kV_answers_of dc_answers_of pm_answers_of cd_answers_of ct_answers_of : Value}
    {f_teller_of : Addr} {od_teller_of an_teller_of : Option Addr} {sl_teller_of : Array (Option Value)} {oc_teller_of kV_teller_of dc_teller_of pm_teller_of cd_teller_of ct_teller_of : Value}
    {f_law_ask : Addr} {od_law_ask an_law_ask : Option Addr} {sl_law_ask : Array (Option Value)} {oc_law_ask kV_law_ask dc_law_ask pm_law_ask cd_law_ask ct_law_ask : Value}
    {f_law_asked : Addr} {od_law_asked an_law_asked : Option Addr} {sl_law_asked : Array (Option Value)} {oc_law_asked kV_law_asked dc_law_asked pm_law_asked cd_law_asked ct_law_asked : Value}
    {f_law_a_due : Addr} {od_law_a_due an_law_a_due : Option Addr} {sl_law_a_due : Array (Option Value)} {oc_law_a_due kV_law_a_due dc_law_a_due pm_law_a_due cd_law_a_due ct_law_a_due : Value}
    {f_law_case : Addr} {od_law_case an_law_case : Option Addr} {sl_law_case : Array (Option Value)} {oc_law_case kV_law_case dc_law_case pm_law_case cd_law_case ct_law_case : Value}
    {f_law : Addr} {od_law an_law : Option Addr} {sl_law : Array (Option Value)} {oc_law kV_law dc_law pm_law cd_law ct_law : Value}
    {t_MOST_TOP : Tok}
    {c_TrainError : Addr}
    {c_NoTrain : Addr}
    {c_NoStand : Addr}
    {c_NoPaper : Addr}
    {c_NoBox : Addr}
    {c_NoSwitch : Addr}
    {c_NoPlace : Addr}
    {c_NoTable : Addr}
    {c_NoText : Addr}
    {c_NoRow : Addr}
    {c_NoPiece : Addr}
    {c_NothingLeft : Addr}
    {c_TooMany : Addr}
    (a_law_draws : PySem.W.nsIn K mainGlobals "_law_draws" = some (some (.ref f_law_draws))) (l_law_draws : K.lookup f_law_draws = some ⟨oc_law_draws, od_law_draws, .func (PySem.W.fnOf "_law_draws" "_law_draws" (defArgs s_law_draws) (defBody s_law_draws) (defScope s_law_draws) .none kV_law_draws dc_law_draws pm_law_draws an_law_draws cd_law_draws ct_law_draws), sl_law_draws⟩) (c_law_draws : PySem.W.codeIn K cd_law_draws "_law_draws" = true) (k_law_draws : PySem.W.keepIn K (.ref f_law_draws) = true)
    (a_law_a_kin : PySem.W.nsIn K mainGlobals "_law_a_kin" = some (some (.ref f_law_a_kin))) (l_law_a_kin : K.lookup f_law_a_kin = some ⟨oc_law_a_kin, od_law_a_kin, .func (PySem.W.fnOf "_law_a_kin" "_law_a_kin" (defArgs s_law_a_kin) (defBody s_law_a_kin) (defScope s_law_a_kin) .none kV_law_a_kin dc_law_a_kin pm_law_a_kin an_law_a_kin cd_law_a_kin ct_law_a_kin), sl_law_a_kin⟩) (c_law_a_kin : PySem.W.codeIn K cd_law_a_kin "_law_a_kin" = true) (k_law_a_kin : PySem.W.keepIn K (.ref f_law_a_kin) = true)
    (a_law_due_kin : PySem.W.nsIn K mainGlobals "_law_due_kin" = some (some (.ref f_law_due_kin))) (l_law_due_kin : K.lookup f_law_due_kin = some ⟨oc_law_due_kin, od_law_due_kin, .func (PySem.W.fnOf "_law_due_kin" "_law_due_kin" (defArgs s_law_due_kin) (defBody s_law_due_kin) (defScope s_law_due_kin) .none kV_law_due_kin dc_law_due_kin pm_law_due_kin an_law_due_kin cd_law_due_kin ct_law_due_kin), sl_law_due_kin⟩) (c_law_due_kin : PySem.W.codeIn K cd_law_due_kin "_law_due_kin" = true) (k_law_due_kin : PySem.W.keepIn K (.ref f_law_due_kin) = true)
    (a_refuse_no_top : PySem.W.nsIn K mainGlobals "refuse_no_top" = some (some (.ref f_refuse_no_top))) (l_refuse_no_top : K.lookup f_refuse_no_top = some ⟨oc_refuse_no_top, od_refuse_no_top, .func (PySem.W.fnOf "refuse_no_top" "refuse_no_top" (defArgs s_refuse_no_top) (defBody s_refuse_no_top) (defScope s_refuse_no_top) .none kV_refuse_no_top dc_refuse_no_top pm_refuse_no_top an_refuse_no_top cd_refuse_no_top ct_refuse_no_top), sl_refuse_no_top⟩) (c_refuse_no_top : PySem.W.codeIn K cd_refuse_no_top "refuse_no_top" = true) (k_refuse_no_top : PySem.W.keepIn K (.ref f_refuse_no_top) = true)
    (a_refuse_no_place : PySem.W.nsIn K mainGlobals "refuse_no_place" = some (some (.ref f_refuse_no_place))) (l_refuse_no_place : K.lookup f_refuse_no_place = some ⟨oc_refuse_no_place, od_refuse_no_place, .func (PySem.W.fnOf "refuse_no_place" "refuse_no_place" (defArgs s_refuse_no_place) (defBody s_refuse_no_place) (defScope s_refuse_no_place) .none kV_refuse_no_place dc_refuse_no_place pm_refuse_no_place an_refuse_no_place cd_refuse_no_place ct_refuse_no_place), sl_refuse_no_place⟩) (c_refuse_no_place : PySem.W.codeIn K cd_refuse_no_place "refuse_no_place" = true) (k_refuse_no_place : PySem.W.keepIn K (.ref f_refuse_no_place) = true)
    (a_Switch___init__ : PySem.W.findIn K (.ref c_Switch) "__init__" = some (some (.ref f_Switch___init__))) (i_Switch___init__ : PySem.W.isFn K (.ref f_Switch___init__) = true) (l_Switch___init__ : K.lookup f_Switch___init__ = some ⟨oc_Switch___init__, od_Switch___init__, .func (PySem.W.fnOf "__init__" "Switch.__init__" (defArgs s_Switch___init__) (defBody s_Switch___init__) (defScope s_Switch___init__) .none kV_Switch___init__ dc_Switch___init__ pm_Switch___init__ an_Switch___init__ cd_Switch___init__ ct_Switch___init__), sl_Switch___init__⟩) (c_Switch___init__ : PySem.W.codeIn K cd_Switch___init__ "Switch.__init__" = true) (k_Switch___init__ : PySem.W.keepIn K (.ref f_Switch___init__) = true)
    (a_Switch_turn : PySem.W.findIn K (.ref c_Switch) "turn" = some (some (.ref f_Switch_turn))) (i_Switch_turn : PySem.W.isFn K (.ref f_Switch_turn) = true) (l_Switch_turn : K.lookup f_Switch_turn = some ⟨oc_Switch_turn, od_Switch_turn, .func (PySem.W.fnOf "turn" "Switch.turn" (defArgs s_Switch_turn) (defBody s_Switch_turn) (defScope s_Switch_turn) .none kV_Switch_turn dc_Switch_turn pm_Switch_turn an_Switch_turn cd_Switch_turn ct_Switch_turn), sl_Switch_turn⟩) (c_Switch_turn : PySem.W.codeIn K cd_Switch_turn "Switch.turn" = true) (k_Switch_turn : PySem.W.keepIn K (.ref f_Switch_turn) = true)
    (a_Switch_on : PySem.W.findIn K (.ref c_Switch) "on" = some (some (.ref f_Switch_on))) (i_Switch_on : PySem.W.isFn K (.ref f_Switch_on) = true) (l_Switch_on : K.lookup f_Switch_on = some ⟨oc_Switch_on, od_Switch_on, .func (PySem.W.fnOf "on" "Switch.on" (defArgs s_Switch_on) (defBody s_Switch_on) (defScope s_Switch_on) .none kV_Switch_on dc_Switch_on pm_Switch_on an_Switch_on cd_Switch_on ct_Switch_on), sl_Switch_on⟩) (c_Switch_on : PySem.W.codeIn K cd_Switch_on "Switch.on" = true) (k_Switch_on : PySem.W.keepIn K (.ref f_Switch_on) = true)
    (a_switch_within : PySem.W.nsIn K mainGlobals "switch_within" = some (some (.ref f_switch_within))) (l_switch_within : K.lookup f_switch_within = some ⟨oc_switch_within, od_switch_within, .func (PySem.W.fnOf "switch_within" "switch_within" (defArgs s_switch_within) (defBody s_switch_within) (defScope s_switch_within) .none kV_switch_within dc_switch_within pm_switch_within an_switch_within cd_switch_within ct_switch_within), sl_switch_within⟩) (c_switch_within : PySem.W.codeIn K cd_switch_within "switch_within" = true) (k_switch_within : PySem.W.keepIn K (.ref f_switch_within) = true)
    (a_Box___init__ : PySem.W.findIn K (.ref c_Box) "__init__" = some (some (.ref f_Box___init__))) (i_Box___init__ : PySem.W.isFn K (.ref f_Box___init__) = true) (l_Box___init__ : K.lookup f_Box___init__ = some ⟨oc_Box___init__, od_Box___init__, .func (PySem.W.fnOf "__init__" "Box.__init__" (defArgs s_Box___init__) (defBody s_Box___init__) (defScope s_Box___init__) .none kV_Box___init__ dc_Box___init__ pm_Box___init__ an_Box___init__ cd_Box___init__ ct_Box___init__), sl_Box___init__⟩) (c_Box___init__ : PySem.W.codeIn K cd_Box___init__ "Box.__init__" = true) (k_Box___init__ : PySem.W.keepIn K (.ref f_Box___init__) = true)
    (a_Box_lit : PySem.W.findIn K (.ref c_Box) "lit" = some (some (.ref f_Box_lit))) (i_Box_lit : PySem.W.isFn K (.ref f_Box_lit) = true) (l_Box_lit : K.lookup f_Box_lit = some ⟨oc_Box_lit, od_Box_lit, .func (PySem.W.fnOf "lit" "Box.lit" (defArgs s_Box_lit) (defBody s_Box_lit) (defScope s_Box_lit) .none kV_Box_lit dc_Box_lit pm_Box_lit an_Box_lit cd_Box_lit ct_Box_lit), sl_Box_lit⟩) (c_Box_lit : PySem.W.codeIn K cd_Box_lit "Box.lit" = true) (k_Box_lit : PySem.W.keepIn K (.ref f_Box_lit) = true)
    (a_Box_answer : PySem.W.findIn K (.ref c_Box) "answer" = some (some (.ref f_Box_answer))) (i_Box_answer : PySem.W.isFn K (.ref f_Box_answer) = true) (l_Box_answer : K.lookup f_Box_answer = some ⟨oc_Box_answer, od_Box_answer, .func (PySem.W.fnOf "answer" "Box.answer" (defArgs s_Box_answer) (defBody s_Box_answer) (defScope s_Box_answer) .none kV_Box_answer dc_Box_answer pm_Box_answer an_Box_answer cd_Box_answer ct_Box_answer), sl_Box_answer⟩) (c_Box_answer : PySem.W.codeIn K cd_Box_answer "Box.answer" = true) (k_Box_answer : PySem.W.keepIn K (.ref f_Box_answer) = true)
    (a_Box_turn : PySem.W.findIn K (.ref c_Box) "turn" = some (some (.ref f_Box_turn))) (i_Box_turn : PySem.W.isFn K (.ref f_Box_turn) = true) (l_Box_turn : K.lookup f_Box_turn = some ⟨oc_Box_turn, od_Box_turn, .func (PySem.W.fnOf "turn" "Box.turn" (defArgs s_Box_turn) (defBody s_Box_turn) (defScope s_Box_turn) .none kV_Box_turn dc_Box_turn pm_Box_turn an_Box_turn cd_Box_turn ct_Box_turn), sl_Box_turn⟩) (c_Box_turn : PySem.W.codeIn K cd_Box_turn "Box.turn" = true) (k_Box_turn : PySem.W.keepIn K (.ref f_Box_turn) = true)
    (a_Box_anew : PySem.W.findIn K (.ref c_Box) "anew" = some (some (.ref f_Box_anew))) (i_Box_anew : PySem.W.isFn K (.ref f_Box_anew) = true) (l_Box_anew : K.lookup f_Box_anew = some ⟨oc_Box_anew, od_Box_anew, .func (PySem.W.fnOf "anew" "Box.anew" (defArgs s_Box_anew) (defBody s_Box_anew) (defScope s_Box_anew) .none kV_Box_anew dc_Box_anew pm_Box_anew an_Box_anew cd_Box_anew ct_Box_anew), sl_Box_anew⟩) (c_Box_anew : PySem.W.codeIn K cd_Box_anew "Box.anew" = true) (k_Box_anew : PySem.W.keepIn K (.ref f_Box_anew) = true)
    (a_first_return : PySem.W.nsIn K mainGlobals "first_return" = some (some (.ref f_first_return))) (l_first_return : K.lookup f_first_return = some ⟨oc_first_return, od_first_return, .func (PySem.W.fnOf "first_return" "first_return" (defArgs s_first_return) (defBody s_first_return) (defScope s_first_return) .none kV_first_return dc_first_return pm_first_return an_first_return cd_first_return ct_first_return), sl_first_return⟩) (c_first_return : PySem.W.codeIn K cd_first_return "first_return" = true) (k_first_return : PySem.W.keepIn K (.ref f_first_return) = true)
    (a_returns_of : PySem.W.nsIn K mainGlobals "returns_of" = some (some (.ref f_returns_of))) (l_returns_of : K.lookup f_returns_of = some ⟨oc_returns_of, od_returns_of, .func (PySem.W.fnOf "returns_of" "returns_of" (defArgs s_returns_of) (defBody s_returns_of) (defScope s_returns_of) .none kV_returns_of dc_returns_of pm_returns_of an_returns_of cd_returns_of ct_returns_of), sl_returns_of⟩) (c_returns_of : PySem.W.codeIn K cd_returns_of "returns_of" = true) (k_returns_of : PySem.W.keepIn K (.ref f_returns_of) = true)
    (a_answers_of : PySem.W.nsIn K mainGlobals "answers_of" = some (some (.ref f_answers_of))) (l_answers_of : K.lookup f_answers_of = some ⟨oc_answers_of, od_answers_of, .func (PySem.W.fnOf "answers_of" "answers_of" (defArgs s_answers_of) (defBody s_answers_of) (defScope s_answers_of) .none kV_answers_of dc_answers_of pm_answers_of an_answers_of cd_answers_of ct_answers_of), sl_answers_of⟩) (c_answers_of : PySem.W.codeIn K cd_answers_of "answers_of" = true) (k_answers_of : PySem.W.keepIn K (.ref f_answers_of) = true)
    (a_teller_of : PySem.W.nsIn K mainGlobals "teller_of" = some (some (.ref f_teller_of))) (l_teller_of : K.lookup f_teller_of = some ⟨oc_teller_of, od_teller_of, .func (PySem.W.fnOf "teller_of" "teller_of" (defArgs s_teller_of) (defBody s_teller_of) (defScope s_teller_of) .none kV_teller_of dc_teller_of pm_teller_of an_teller_of cd_teller_of ct_teller_of), sl_teller_of⟩) (c_teller_of : PySem.W.codeIn K cd_teller_of "teller_of" = true) (k_teller_of : PySem.W.keepIn K (.ref f_teller_of) = true)
    (a_law_ask : PySem.W.nsIn K mainGlobals "_law_ask" = some (some (.ref f_law_ask))) (l_law_ask : K.lookup f_law_ask = some ⟨oc_law_ask, od_law_ask, .func (PySem.W.fnOf "_law_ask" "_law_ask" (defArgs s_law_ask) (defBody s_law_ask) (defScope s_law_ask) .none kV_law_ask dc_law_ask pm_law_ask an_law_ask cd_law_ask ct_law_ask), sl_law_ask⟩) (c_law_ask : PySem.W.codeIn K cd_law_ask "_law_ask" = true) (k_law_ask : PySem.W.keepIn K (.ref f_law_ask) = true)
    (a_law_asked : PySem.W.nsIn K mainGlobals "_law_asked" = some (some (.ref f_law_asked))) (l_law_asked : K.lookup f_law_asked = some ⟨oc_law_asked, od_law_asked, .func (PySem.W.fnOf "_law_asked" "_law_asked" (defArgs s_law_asked) (defBody s_law_asked) (defScope s_law_asked) .none kV_law_asked dc_law_asked pm_law_asked an_law_asked cd_law_asked ct_law_asked), sl_law_asked⟩) (c_law_asked : PySem.W.codeIn K cd_law_asked "_law_asked" = true) (k_law_asked : PySem.W.keepIn K (.ref f_law_asked) = true)
    (a_law_a_due : PySem.W.nsIn K mainGlobals "_law_a_due" = some (some (.ref f_law_a_due))) (l_law_a_due : K.lookup f_law_a_due = some ⟨oc_law_a_due, od_law_a_due, .func (PySem.W.fnOf "_law_a_due" "_law_a_due" (defArgs s_law_a_due) (defBody s_law_a_due) (defScope s_law_a_due) .none kV_law_a_due dc_law_a_due pm_law_a_due an_law_a_due cd_law_a_due ct_law_a_due), sl_law_a_due⟩) (c_law_a_due : PySem.W.codeIn K cd_law_a_due "_law_a_due" = true) (k_law_a_due : PySem.W.keepIn K (.ref f_law_a_due) = true)
    (a_law_case : PySem.W.nsIn K mainGlobals "_law_case" = some (some (.ref f_law_case))) (l_law_case : K.lookup f_law_case = some ⟨oc_law_case, od_law_case, .func (PySem.W.fnOf "_law_case" "_law_case" (defArgs s_law_case) (defBody s_law_case) (defScope s_law_case) .none kV_law_case dc_law_case pm_law_case an_law_case cd_law_case ct_law_case), sl_law_case⟩) (c_law_case : PySem.W.codeIn K cd_law_case "_law_case" = true) (k_law_case : PySem.W.keepIn K (.ref f_law_case) = true)
    (a_law : PySem.W.nsIn K mainGlobals "law" = some (some (.ref f_law))) (l_law : K.lookup f_law = some ⟨oc_law, od_law, .func (PySem.W.fnOf "law" "law" (defArgs s_law) (defBody s_law) (defScope s_law) .none kV_law dc_law pm_law an_law cd_law ct_law), sl_law⟩) (c_law : PySem.W.codeIn K cd_law "law" = true) (k_law : PySem.W.keepIn K (.ref f_law) = true)
    (z_ValueError : PySem.W.nsIn K mainGlobals "ValueError" = some none)
    (z_enumerate : PySem.W.nsIn K mainGlobals "enumerate" = some none)
    (z_int : PySem.W.nsIn K mainGlobals "int" = some none)
    (z_isinstance : PySem.W.nsIn K mainGlobals "isinstance" = some none)
    (z_len : PySem.W.nsIn K mainGlobals "len" = some none)
    (z_list : PySem.W.nsIn K mainGlobals "list" = some none)
    (z_max : PySem.W.nsIn K mainGlobals "max" = some none)
    (z_min : PySem.W.nsIn K mainGlobals "min" = some none)
    (z_range : PySem.W.nsIn K mainGlobals "range" = some none)
    (z_sum : PySem.W.nsIn K mainGlobals "sum" = some none)
    (g_MOST_TOP : PySem.W.nsIn K mainGlobals "MOST_TOP" = some (some (.int 16 t_MOST_TOP)))
    (w_Switch : PySem.W.nsIn K mainGlobals "Switch" = some (some (.ref c_Switch)))
    (w_Box : PySem.W.nsIn K mainGlobals "Box" = some (some (.ref c_Box)))
    (pg_Switch : PySem.W.plainGet K c_Switch Str.empty = true)
    (hd_Switch : PySem.W.hasDictIn K c_Switch = true)
    (po_Switch : PySem.W.plainOver K c_Switch = true)
    (sa_Switch : PySem.W.findIn K (.ref c_Switch) "__setattr__" = some (some (.builtin "object.__setattr__")))
    (mk_Switch : PySem.W.makesIn K c_Switch = true)
    (kc_Switch : PySem.W.keepIn K (.ref c_Switch) = true)
    (na_Switch_low : PySem.W.findIn K (.ref c_Switch) "low" = some none)
    (na_Switch_high : PySem.W.findIn K (.ref c_Switch) "high" = some none)
    (na_Switch_is_on : PySem.W.findIn K (.ref c_Switch) "is_on" = some none)
    (pg_Box : PySem.W.plainGet K c_Box Str.empty = true)
    (hd_Box : PySem.W.hasDictIn K c_Box = true)
    (po_Box : PySem.W.plainOver K c_Box = true)
    (sa_Box : PySem.W.findIn K (.ref c_Box) "__setattr__" = some (some (.builtin "object.__setattr__")))
    (mk_Box : PySem.W.makesIn K c_Box = true)
    (kc_Box : PySem.W.keepIn K (.ref c_Box) = true)
    (na_Box_top : PySem.W.findIn K (.ref c_Box) "top" = some none)
    (na_Box_switches : PySem.W.findIn K (.ref c_Box) "switches" = some none)
    (na_Box_weights : PySem.W.findIn K (.ref c_Box) "weights" = some none)
    (na_Box_at : PySem.W.findIn K (.ref c_Box) "at" = some none)
    (n_TrainError : PySem.W.nsIn K mainGlobals "TrainError" = some (some (.ref c_TrainError)))
    (n_NoTrain : PySem.W.nsIn K mainGlobals "NoTrain" = some (some (.ref c_NoTrain)))
    (n_NoStand : PySem.W.nsIn K mainGlobals "NoStand" = some (some (.ref c_NoStand)))
    (n_NoPaper : PySem.W.nsIn K mainGlobals "NoPaper" = some (some (.ref c_NoPaper)))
    (n_NoBox : PySem.W.nsIn K mainGlobals "NoBox" = some (some (.ref c_NoBox)))
    (n_NoSwitch : PySem.W.nsIn K mainGlobals "NoSwitch" = some (some (.ref c_NoSwitch)))
    (n_NoPlace : PySem.W.nsIn K mainGlobals "NoPlace" = some (some (.ref c_NoPlace)))
    (n_NoTable : PySem.W.nsIn K mainGlobals "NoTable" = some (some (.ref c_NoTable)))
    (n_NoText : PySem.W.nsIn K mainGlobals "NoText" = some (some (.ref c_NoText)))
    (n_NoRow : PySem.W.nsIn K mainGlobals "NoRow" = some (some (.ref c_NoRow)))
    (n_NoPiece : PySem.W.nsIn K mainGlobals "NoPiece" = some (some (.ref c_NoPiece)))
    (n_NothingLeft : PySem.W.nsIn K mainGlobals "NothingLeft" = some (some (.ref c_NothingLeft)))
    (n_TooMany : PySem.W.nsIn K mainGlobals "TooMany" = some (some (.ref c_TooMany)))
    (x_NoBox : PySem.W.excIn K c_NoBox [.type "ValueError", .type "Exception", .type "BaseException", .type "object"] "ValueError.__new__" = true)
    (e_NoBox : PySem.W.exmOne K (.ref c_NoBox) (.ref c_TrainError) = some true)
    (i_NoBox_ga : PySem.W.findIn K (.ref c_NoBox) "__getattribute__" = some (some (.builtin "BaseException.__getattribute__")))
    (i_NoBox_gt : PySem.W.findIn K (.ref c_NoBox) "__getattr__" = some none)
    (i_NoBox_mb : PySem.W.mroIn K c_NoBox (.type "BaseException") = some true)
    (i_NoBox_hd : PySem.W.hasDictIn K c_NoBox = true)
    (i_NoBox_ca : PySem.W.findIn K (.ref c_NoBox) "__class__" = some (some (.builtin "object.__class__")))
    (i_NoBox_sp : PySem.W.specialIn K (.builtin "object.__class__") "__get__" = some (some (.builtin "getset_descriptor.__get__")))
    (i_NoBox_tk : PySem.W.takesIn K (.builtin "object.__class__") = some true)
    (i_NoBox_mr : PySem.W.mroIn K c_NoBox (.type "object") = some true)
    (k_NoBox_NoTrain : PySem.W.kitOne K (.ref c_NoBox) (.ref c_NoTrain) = some false)
    (k_NoBox_NoStand : PySem.W.kitOne K (.ref c_NoBox) (.ref c_NoStand) = some false)
    (k_NoBox_NoPaper : PySem.W.kitOne K (.ref c_NoBox) (.ref c_NoPaper) = some false)
    (k_NoBox_NoBox : PySem.W.kitOne K (.ref c_NoBox) (.ref c_NoBox) = some true)
    (k_NoBox_NoSwitch : PySem.W.kitOne K (.ref c_NoBox) (.ref c_NoSwitch) = some false)
    (k_NoBox_NoPlace : PySem.W.kitOne K (.ref c_NoBox) (.ref c_NoPlace) = some false)
    (k_NoBox_NoTable : PySem.W.kitOne K (.ref c_NoBox) (.ref c_NoTable) = some false)
    (k_NoBox_NoText : PySem.W.kitOne K (.ref c_NoBox) (.ref c_NoText) = some false)
    (k_NoBox_NoRow : PySem.W.kitOne K (.ref c_NoBox) (.ref c_NoRow) = some false)
    (k_NoBox_NoPiece : PySem.W.kitOne K (.ref c_NoBox) (.ref c_NoPiece) = some false)
    (k_NoBox_NothingLeft : PySem.W.kitOne K (.ref c_NoBox) (.ref c_NothingLeft) = some false)
    (k_NoBox_TooMany : PySem.W.kitOne K (.ref c_NoBox) (.ref c_TooMany) = some false)
    (k_NoBox_ValueError : PySem.W.kitOne K (.ref c_NoBox) (.type "ValueError") = some true)
    (x_NoSwitch : PySem.W.excIn K c_NoSwitch [.type "ValueError", .type "Exception", .type "BaseException", .type "object"] "ValueError.__new__" = true)
    (e_NoSwitch : PySem.W.exmOne K (.ref c_NoSwitch) (.ref c_TrainError) = some true)
    (i_NoSwitch_ga : PySem.W.findIn K (.ref c_NoSwitch) "__getattribute__" = some (some (.builtin "BaseException.__getattribute__")))
    (i_NoSwitch_gt : PySem.W.findIn K (.ref c_NoSwitch) "__getattr__" = some none)
    (i_NoSwitch_mb : PySem.W.mroIn K c_NoSwitch (.type "BaseException") = some true)
    (i_NoSwitch_hd : PySem.W.hasDictIn K c_NoSwitch = true)
    (i_NoSwitch_ca : PySem.W.findIn K (.ref c_NoSwitch) "__class__" = some (some (.builtin "object.__class__")))
    (i_NoSwitch_sp : PySem.W.specialIn K (.builtin "object.__class__") "__get__" = some (some (.builtin "getset_descriptor.__get__")))
    (i_NoSwitch_tk : PySem.W.takesIn K (.builtin "object.__class__") = some true)
    (i_NoSwitch_mr : PySem.W.mroIn K c_NoSwitch (.type "object") = some true)
    (k_NoSwitch_NoTrain : PySem.W.kitOne K (.ref c_NoSwitch) (.ref c_NoTrain) = some false)
    (k_NoSwitch_NoStand : PySem.W.kitOne K (.ref c_NoSwitch) (.ref c_NoStand) = some false)
    (k_NoSwitch_NoPaper : PySem.W.kitOne K (.ref c_NoSwitch) (.ref c_NoPaper) = some false)
    (k_NoSwitch_NoBox : PySem.W.kitOne K (.ref c_NoSwitch) (.ref c_NoBox) = some false)
    (k_NoSwitch_NoSwitch : PySem.W.kitOne K (.ref c_NoSwitch) (.ref c_NoSwitch) = some true)
    (k_NoSwitch_NoPlace : PySem.W.kitOne K (.ref c_NoSwitch) (.ref c_NoPlace) = some false)
    (k_NoSwitch_NoTable : PySem.W.kitOne K (.ref c_NoSwitch) (.ref c_NoTable) = some false)
    (k_NoSwitch_NoText : PySem.W.kitOne K (.ref c_NoSwitch) (.ref c_NoText) = some false)
    (k_NoSwitch_NoRow : PySem.W.kitOne K (.ref c_NoSwitch) (.ref c_NoRow) = some false)
    (k_NoSwitch_NoPiece : PySem.W.kitOne K (.ref c_NoSwitch) (.ref c_NoPiece) = some false)
    (k_NoSwitch_NothingLeft : PySem.W.kitOne K (.ref c_NoSwitch) (.ref c_NothingLeft) = some false)
    (k_NoSwitch_TooMany : PySem.W.kitOne K (.ref c_NoSwitch) (.ref c_TooMany) = some false)
    (k_NoSwitch_ValueError : PySem.W.kitOne K (.ref c_NoSwitch) (.type "ValueError") = some true)
    (x_NoPlace : PySem.W.excIn K c_NoPlace [.type "ValueError", .type "Exception", .type "BaseException", .type "object"] "ValueError.__new__" = true)
    (e_NoPlace : PySem.W.exmOne K (.ref c_NoPlace) (.ref c_TrainError) = some true)
    (i_NoPlace_ga : PySem.W.findIn K (.ref c_NoPlace) "__getattribute__" = some (some (.builtin "BaseException.__getattribute__")))
    (i_NoPlace_gt : PySem.W.findIn K (.ref c_NoPlace) "__getattr__" = some none)
    (i_NoPlace_mb : PySem.W.mroIn K c_NoPlace (.type "BaseException") = some true)
    (i_NoPlace_hd : PySem.W.hasDictIn K c_NoPlace = true)
    (i_NoPlace_ca : PySem.W.findIn K (.ref c_NoPlace) "__class__" = some (some (.builtin "object.__class__")))
    (i_NoPlace_sp : PySem.W.specialIn K (.builtin "object.__class__") "__get__" = some (some (.builtin "getset_descriptor.__get__")))
    (i_NoPlace_tk : PySem.W.takesIn K (.builtin "object.__class__") = some true)
    (i_NoPlace_mr : PySem.W.mroIn K c_NoPlace (.type "object") = some true)
    (k_NoPlace_NoTrain : PySem.W.kitOne K (.ref c_NoPlace) (.ref c_NoTrain) = some false)
    (k_NoPlace_NoStand : PySem.W.kitOne K (.ref c_NoPlace) (.ref c_NoStand) = some false)
    (k_NoPlace_NoPaper : PySem.W.kitOne K (.ref c_NoPlace) (.ref c_NoPaper) = some false)
    (k_NoPlace_NoBox : PySem.W.kitOne K (.ref c_NoPlace) (.ref c_NoBox) = some false)
    (k_NoPlace_NoSwitch : PySem.W.kitOne K (.ref c_NoPlace) (.ref c_NoSwitch) = some false)
    (k_NoPlace_NoPlace : PySem.W.kitOne K (.ref c_NoPlace) (.ref c_NoPlace) = some true)
    (k_NoPlace_NoTable : PySem.W.kitOne K (.ref c_NoPlace) (.ref c_NoTable) = some false)
    (k_NoPlace_NoText : PySem.W.kitOne K (.ref c_NoPlace) (.ref c_NoText) = some false)
    (k_NoPlace_NoRow : PySem.W.kitOne K (.ref c_NoPlace) (.ref c_NoRow) = some false)
    (k_NoPlace_NoPiece : PySem.W.kitOne K (.ref c_NoPlace) (.ref c_NoPiece) = some false)
    (k_NoPlace_NothingLeft : PySem.W.kitOne K (.ref c_NoPlace) (.ref c_NothingLeft) = some false)
    (k_NoPlace_TooMany : PySem.W.kitOne K (.ref c_NoPlace) (.ref c_TooMany) = some false)
    (k_NoPlace_ValueError : PySem.W.kitOne K (.ref c_NoPlace) (.type "ValueError") = some true) :
    ∃ fd : FuncData, (∀ (s : Shared) (v : Value), BindsTo s fd ⟨[v], []⟩ [("script", v)]) ∧ ∀ base : Heap, K.In base → base.Ns mainGlobals mg → FnOk l.prog w K mg base CX0 11 fa fd ["script"] (spLaw K) := by
  have e := hfa.symm.trans (PySem.W.mg_of X G a_law)
  cases e
  have T : Txt mg := ⟨PySem.W.mg_none_of X G z_ValueError, PySem.W.mg_none_of X G z_enumerate, PySem.W.mg_none_of X G z_int, PySem.W.mg_none_of X G z_isinstance, PySem.W.mg_none_of X G z_len, PySem.W.mg_none_of X G z_list, PySem.W.mg_none_of X G z_max, PySem.W.mg_none_of X G z_min, PySem.W.mg_none_of X G z_range, PySem.W.mg_none_of X G z_sum, ⟨_, PySem.W.mg_of X G g_MOST_TOP⟩⟩
  let Z : Cls K mg := ⟨c_TrainError, c_NoTrain, c_NoStand, c_NoPaper, c_NoBox, c_NoSwitch, c_NoPlace, c_NoTable, c_NoText, c_NoRow, c_NoPiece, c_NothingLeft, c_TooMany, PySem.W.mg_of X G n_TrainError, PySem.W.mg_of X G n_NoTrain, PySem.W.mg_of X G n_NoStand, PySem.W.mg_of X G n_NoPaper, PySem.W.mg_of X G n_NoBox, PySem.W.mg_of X G n_NoSwitch, PySem.W.mg_of X G n_NoPlace, PySem.W.mg_of X G n_NoTable, PySem.W.mg_of X G n_NoText, PySem.W.mg_of X G n_NoRow, PySem.W.mg_of X G n_NoPiece, PySem.W.mg_of X G n_NothingLeft, PySem.W.mg_of X G n_TooMany, x_NoBox, e_NoBox, i_NoBox_ga, i_NoBox_gt, i_NoBox_mb, i_NoBox_hd, i_NoBox_ca, i_NoBox_sp, i_NoBox_tk, i_NoBox_mr, k_NoBox_NoTrain, k_NoBox_NoStand, k_NoBox_NoPaper, k_NoBox_NoBox, k_NoBox_NoSwitch, k_NoBox_NoPlace, k_NoBox_NoTable, k_NoBox_NoText, k_NoBox_NoRow, k_NoBox_NoPiece, k_NoBox_NothingLeft, k_NoBox_TooMany, k_NoBox_ValueError, x_NoSwitch, e_NoSwitch, i_NoSwitch_ga, i_NoSwitch_gt, i_NoSwitch_mb, i_NoSwitch_hd, i_NoSwitch_ca, i_NoSwitch_sp, i_NoSwitch_tk, i_NoSwitch_mr, k_NoSwitch_NoTrain, k_NoSwitch_NoStand, k_NoSwitch_NoPaper, k_NoSwitch_NoBox, k_NoSwitch_NoSwitch, k_NoSwitch_NoPlace, k_NoSwitch_NoTable, k_NoSwitch_NoText, k_NoSwitch_NoRow, k_NoSwitch_NoPiece, k_NoSwitch_NothingLeft, k_NoSwitch_TooMany, k_NoSwitch_ValueError, x_NoPlace, e_NoPlace, i_NoPlace_ga, i_NoPlace_gt, i_NoPlace_mb, i_NoPlace_hd, i_NoPlace_ca, i_NoPlace_sp, i_NoPlace_tk, i_NoPlace_mr, k_NoPlace_NoTrain, k_NoPlace_NoStand, k_NoPlace_NoPaper, k_NoPlace_NoBox, k_NoPlace_NoSwitch, k_NoPlace_NoPlace, k_NoPlace_NoTable, k_NoPlace_NoText, k_NoPlace_NoRow, k_NoPlace_NoPiece, k_NoPlace_NothingLeft, k_NoPlace_TooMany, k_NoPlace_ValueError⟩
  let Y : Own K mg := ⟨c_Switch, c_Box, PySem.W.mg_of X G w_Switch, PySem.W.mg_of X G w_Box, pg_Switch, hd_Switch, po_Switch, sa_Switch, mk_Switch, kc_Switch, na_Switch_low, na_Switch_high, na_Switch_is_on, pg_Box, hd_Box, po_Box, sa_Box, mk_Box, kc_Box, na_Box_top, na_Box_switches, na_Box_weights, na_Box_at⟩
  have F_law_draws := fun_mk (st := s_law_draws) l_law_draws c_law_draws k_law_draws
  have D_law_draws : Def K mg "_law_draws" s_law_draws := ⟨_, _, F_law_draws, PySem.W.mg_of X G a_law_draws⟩
  have F_law_a_kin := fun_mk (st := s_law_a_kin) l_law_a_kin c_law_a_kin k_law_a_kin
  have D_law_a_kin : Def K mg "_law_a_kin" s_law_a_kin := ⟨_, _, F_law_a_kin, PySem.W.mg_of X G a_law_a_kin⟩
  have F_law_due_kin := fun_mk (st := s_law_due_kin) l_law_due_kin c_law_due_kin k_law_due_kin
  have D_law_due_kin : Def K mg "_law_due_kin" s_law_due_kin := ⟨_, _, F_law_due_kin, PySem.W.mg_of X G a_law_due_kin⟩
  have F_refuse_no_top := fun_mk (st := s_refuse_no_top) l_refuse_no_top c_refuse_no_top k_refuse_no_top
  have D_refuse_no_top : Def K mg "refuse_no_top" s_refuse_no_top := ⟨_, _, F_refuse_no_top, PySem.W.mg_of X G a_refuse_no_top⟩
  have F_refuse_no_place := fun_mk (st := s_refuse_no_place) l_refuse_no_place c_refuse_no_place k_refuse_no_place
  have D_refuse_no_place : Def K mg "refuse_no_place" s_refuse_no_place := ⟨_, _, F_refuse_no_place, PySem.W.mg_of X G a_refuse_no_place⟩
  have F_Switch___init__ := fun_mk (st := s_Switch___init__) l_Switch___init__ c_Switch___init__ k_Switch___init__
  have D_Switch___init__ : DefM K Y.c_Switch "__init__" "Switch.__init__" s_Switch___init__ := ⟨_, _, F_Switch___init__, ⟨a_Switch___init__, i_Switch___init__, k_Switch___init__⟩⟩
  have F_Switch_turn := fun_mk (st := s_Switch_turn) l_Switch_turn c_Switch_turn k_Switch_turn
  have D_Switch_turn : DefM K Y.c_Switch "turn" "Switch.turn" s_Switch_turn := ⟨_, _, F_Switch_turn, ⟨a_Switch_turn, i_Switch_turn, k_Switch_turn⟩⟩
  have F_Switch_on := fun_mk (st := s_Switch_on) l_Switch_on c_Switch_on k_Switch_on
  have D_Switch_on : DefM K Y.c_Switch "on" "Switch.on" s_Switch_on := ⟨_, _, F_Switch_on, ⟨a_Switch_on, i_Switch_on, k_Switch_on⟩⟩
  have F_switch_within := fun_mk (st := s_switch_within) l_switch_within c_switch_within k_switch_within
  have D_switch_within : Def K mg "switch_within" s_switch_within := ⟨_, _, F_switch_within, PySem.W.mg_of X G a_switch_within⟩
  have F_Box___init__ := fun_mk (st := s_Box___init__) l_Box___init__ c_Box___init__ k_Box___init__
  have D_Box___init__ : DefM K Y.c_Box "__init__" "Box.__init__" s_Box___init__ := ⟨_, _, F_Box___init__, ⟨a_Box___init__, i_Box___init__, k_Box___init__⟩⟩
  have F_Box_lit := fun_mk (st := s_Box_lit) l_Box_lit c_Box_lit k_Box_lit
  have D_Box_lit : DefM K Y.c_Box "lit" "Box.lit" s_Box_lit := ⟨_, _, F_Box_lit, ⟨a_Box_lit, i_Box_lit, k_Box_lit⟩⟩
  have F_Box_answer := fun_mk (st := s_Box_answer) l_Box_answer c_Box_answer k_Box_answer
  have D_Box_answer : DefM K Y.c_Box "answer" "Box.answer" s_Box_answer := ⟨_, _, F_Box_answer, ⟨a_Box_answer, i_Box_answer, k_Box_answer⟩⟩
  have F_Box_turn := fun_mk (st := s_Box_turn) l_Box_turn c_Box_turn k_Box_turn
  have D_Box_turn : DefM K Y.c_Box "turn" "Box.turn" s_Box_turn := ⟨_, _, F_Box_turn, ⟨a_Box_turn, i_Box_turn, k_Box_turn⟩⟩
  have F_Box_anew := fun_mk (st := s_Box_anew) l_Box_anew c_Box_anew k_Box_anew
  have D_Box_anew : DefM K Y.c_Box "anew" "Box.anew" s_Box_anew := ⟨_, _, F_Box_anew, ⟨a_Box_anew, i_Box_anew, k_Box_anew⟩⟩
  have F_first_return := fun_mk (st := s_first_return) l_first_return c_first_return k_first_return
  have D_first_return : Def K mg "first_return" s_first_return := ⟨_, _, F_first_return, PySem.W.mg_of X G a_first_return⟩
  have F_returns_of := fun_mk (st := s_returns_of) l_returns_of c_returns_of k_returns_of
  have D_returns_of : Def K mg "returns_of" s_returns_of := ⟨_, _, F_returns_of, PySem.W.mg_of X G a_returns_of⟩
  have F_answers_of := fun_mk (st := s_answers_of) l_answers_of c_answers_of k_answers_of
  have D_answers_of : Def K mg "answers_of" s_answers_of := ⟨_, _, F_answers_of, PySem.W.mg_of X G a_answers_of⟩
  have F_teller_of := fun_mk (st := s_teller_of) l_teller_of c_teller_of k_teller_of
  have D_teller_of : Def K mg "teller_of" s_teller_of := ⟨_, _, F_teller_of, PySem.W.mg_of X G a_teller_of⟩
  have F_law_ask := fun_mk (st := s_law_ask) l_law_ask c_law_ask k_law_ask
  have D_law_ask : Def K mg "_law_ask" s_law_ask := ⟨_, _, F_law_ask, PySem.W.mg_of X G a_law_ask⟩
  have F_law_asked := fun_mk (st := s_law_asked) l_law_asked c_law_asked k_law_asked
  have D_law_asked : Def K mg "_law_asked" s_law_asked := ⟨_, _, F_law_asked, PySem.W.mg_of X G a_law_asked⟩
  have F_law_a_due := fun_mk (st := s_law_a_due) l_law_a_due c_law_a_due k_law_a_due
  have D_law_a_due : Def K mg "_law_a_due" s_law_a_due := ⟨_, _, F_law_a_due, PySem.W.mg_of X G a_law_a_due⟩
  have F_law_case := fun_mk (st := s_law_case) l_law_case c_law_case k_law_case
  have D_law_case : Def K mg "_law_case" s_law_case := ⟨_, _, F_law_case, PySem.W.mg_of X G a_law_case⟩
  have F_law := fun_mk (st := s_law) l_law c_law k_law
  have D_law : Def K mg "law" s_law := ⟨_, _, F_law, PySem.W.mg_of X G a_law⟩
  refine ⟨PySem.W.fnOf "law" "law" (defArgs s_law) (defBody s_law) (defScope s_law) .none kV_law dc_law pm_law an_law cd_law ct_law, fun s v => .of_eq rfl, fun base _ _ => ?_⟩
  have C_law_draws := ok_law_draws (P := l.prog) (w := w) (base := base) T D_law_draws 
  have C_law_a_kin := ok_law_a_kin (P := l.prog) (w := w) (base := base) T Z D_law_a_kin 
  have C_law_due_kin := ok_law_due_kin (P := l.prog) (w := w) (base := base) T D_law_due_kin 
  have C_refuse_no_top := ok_refuse_no_top (P := l.prog) (w := w) (base := base) T Z D_refuse_no_top 
  have C_refuse_no_place := ok_refuse_no_place (P := l.prog) (w := w) (base := base) T Z D_refuse_no_place 
  have C_Switch___init__ := ok_Switch___init__ (P := l.prog) (w := w) (base := base) T Z Y D_Switch___init__ 
  have C_Switch := CalleeM.made (x := "Switch") C_Switch___init__ Y.mk_Switch Y.kc_Switch Y.m_Switch
  have C_Switch_turn := ok_Switch_turn (P := l.prog) (w := w) (base := base) T Y D_Switch_turn 
  have C_Switch_on := ok_Switch_on (P := l.prog) (w := w) (base := base) T Y D_Switch_on 
  have C_switch_within := ok_switch_within (P := l.prog) (w := w) (base := base) T Z Y D_switch_within C_Switch
  have C_Box___init__ := ok_Box___init__ (P := l.prog) (w := w) (base := base) T Z Y D_Box___init__ C_refuse_no_top C_switch_within
  have C_Box := CalleeM.made (x := "Box") C_Box___init__ Y.mk_Box Y.kc_Box Y.m_Box
  have C_Box_lit := ok_Box_lit (P := l.prog) (w := w) (base := base) T Y D_Box_lit C_Switch_on
  have C_Box_answer := ok_Box_answer (P := l.prog) (w := w) (base := base) T Y D_Box_answer C_Box_lit
  have C_Box_turn := ok_Box_turn (P := l.prog) (w := w) (base := base) T Z Y D_Box_turn C_refuse_no_place C_Switch_turn C_Box_answer
  have C0_Box_turn := calm_Box_turn C_Box_turn
  have C_Box_anew := ok_Box_anew (P := l.prog) (w := w) (base := base) T Y D_Box_anew C0_Box_turn
  have C_first_return := ok_first_return (P := l.prog) (w := w) (base := base) T Y D_first_return C_Box_anew C0_Box_turn
  have C_returns_of := ok_returns_of (P := l.prog) (w := w) (base := base) T Z Y D_returns_of C_Box C_first_return
  have C_answers_of := ok_answers_of (P := l.prog) (w := w) (base := base) T Z Y D_answers_of C_Box C_Box_turn
  have C_teller_of := ok_teller_of (P := l.prog) (w := w) (base := base) T Z Y D_teller_of C_returns_of
  have C_law_ask := ok_law_ask (P := l.prog) (w := w) (base := base) T Z Y D_law_ask C_Box C_returns_of C_answers_of C_teller_of
  have C_law_asked := ok_law_asked (P := l.prog) (w := w) (base := base) T Z Y D_law_asked C_law_ask C_Switch C_law_a_kin
  have C_law_a_due := ok_law_a_due (P := l.prog) (w := w) (base := base) T D_law_a_due 
  have C_law_case := ok_law_case (P := l.prog) (w := w) (base := base) T D_law_case C_law_draws
  exact ok_law F_law T Z Y C_law_case C_law_a_due C_law_asked C_law_due_kin
theorem walk {l : PySem.W.OpenLaw} {q : Program} {loose : List Str} {XP : (Str → Option Value) → Heap → Prop} {YP : World → Heap → Prop} {d : DefRec} {K : Params → PySem.W.Frag} (hn : l.most = some 63) (hdf : d.params.defaults = [])
    (hY : ∀ (w : World) (h : Heap), YP w h → (K w.params).In h)
    (F : ∀ (w : World) (mg : Str → Option Value) (fa : Addr) (h : Heap), (K w.params).In h → h.Ns mainGlobals mg → mg d.name = some (.ref fa) →
      ∃ fd : FuncData, (∀ (s : Shared) (u : Value), BindsTo s fd ⟨[u], []⟩ [("script", u)]) ∧ ∀ base : Heap, (K w.params).In base → base.Ns mainGlobals mg → FnOk l.prog w (K w.params) mg base CX0 11 fa fd ["script"] (spLaw (K w.params))) :
    PySem.W.WalkO q loose XP YP l.row.toRowW d [] (fun f vs => PySem.call f vs) :=
  L2.walk_of (n := 63) (k := 11) (x := "script") (CX := fun _ => CX0) (sp := fun w => spLaw (K w.params)) hn (by decide) hdf ⟨rfl, by decide, by decide⟩ hY F (fun _ _ a ns hl _ hS => ⟨a, ns, rfl, hS, hl, fun _ => rfl⟩) fun _ _ _ _ _ z => z
end My
theorem PySem.W.Fast.tw2679195829745859648 : True := trivial
theorem PySem.W.Fast.tw4581673955117099104 : True := trivial
theorem PySem.W.Fast.tw17297184108157414528 : True := trivial
theorem PySem.W.Fast.tw13520820900416382208 : True := trivial
theorem PySem.W.Fast.tw8910739141920064864 : True := trivial
theorem PySem.W.Fast.tw2894942413496735136 : True := trivial
theorem PySem.W.Fast.tw16329124464965585376 : True := trivial
theorem PySem.W.Fast.tw1073575444248832480 : True := trivial
theorem PySem.W.Fast.tw18355153585651663392 : True := trivial
theorem PySem.W.Fast.tw8573128945734215424 : True := trivial
theorem PySem.W.Fast.tw10707092611507515264 : True := trivial
theorem PySem.W.Fast.tw792867751353772928 : True := trivial
theorem PySem.W.Fast.tw6875156951628332000 : True := trivial
theorem PySem.W.Fast.tw6993980613457691873 : True := trivial
theorem PySem.W.Fast.tw12931367577077172513 : True := trivial
theorem PySem.W.Fast.tw103920058425835809 : True := trivial
theorem PySem.W.Fast.tw14114352010647058849 : True := trivial
theorem PySem.W.Fast.tw167056403787617825 : True := trivial
theorem PySem.W.Fast.tw570221886060809985 : True := trivial
theorem PySem.W.Fast.tw7942242353721385761 : True := trivial
theorem PySem.W.Fast.tw5002426959903005633 : True := trivial
theorem PySem.W.Fast.tw11272291739808564322 : True := trivial
theorem PySem.W.Fast.tw3547533953298631010 : True := trivial
theorem PySem.W.Fast.tw14417867999768611234 : True := trivial
theorem PySem.W.Fast.tw11010440172699193826 : True := trivial
theorem PySem.W.Fast.tw6171093669650339394 : True := trivial
theorem PySem.W.Fast.tw11607002938922909250 : True := trivial
theorem PySem.W.Fast.tw14849481782479983202 : True := trivial
theorem PySem.W.Fast.tw13918639808217597570 : True := trivial
theorem PySem.W.Fast.tw12434447850186249858 : True := trivial
theorem PySem.W.Fast.tw6733938392502807266 : True := trivial
theorem PySem.W.Fast.tw16583504759686934274 : True := trivial
theorem PySem.W.Fast.tw5719813303141510946 : True := trivial
theorem PySem.W.Fast.tw5376756848576116546 : True := trivial
theorem PySem.W.Fast.tw1357103234302727203 : True := trivial
theorem PySem.W.Fast.tw753310987217353827 : True := trivial
theorem PySem.W.Fast.tw3642233080828520547 : True := trivial
theorem PySem.W.Fast.tw199835417063320771 : True := trivial
theorem PySem.W.Fast.tw13196788082161405187 : True := trivial
theorem PySem.W.Fast.tw14491615668757053763 : True := trivial
theorem PySem.W.Fast.tw2430818669629777315 : True := trivial
theorem PySem.W.Fast.tw10212197677151106467 : True := trivial
theorem PySem.W.Fast.tw5646331700520183331 : True := trivial
theorem PySem.W.Fast.tw1809917951048216163 : True := trivial
theorem PySem.W.Fast.tw10809355971619900099 : True := trivial
theorem PySem.W.Fast.tw10359845089117803427 : True := trivial
theorem PySem.W.Fast.tw9034952123082468291 : True := trivial
theorem PySem.W.Fast.tw7117772686343656452 : True := trivial
theorem PySem.W.Fast.tw8603006737974283268 : True := trivial
theorem PySem.W.Fast.tw15670304131726130276 : True := trivial
theorem PySem.W.Fast.tw18109777146707976324 : True := trivial
theorem PySem.W.Fast.tw11326930779107139844 : True := trivial
theorem PySem.W.Fast.tw14367368008361186564 : True := trivial
theorem PySem.W.Fast.tw11196737609583871332 : True := trivial
theorem PySem.W.Fast.tw9370636637011054980 : True := trivial
theorem PySem.W.Fast.tw9419115600153768452 : True := trivial
theorem PySem.W.Fast.tw6924754801850914308 : True := trivial
theorem PySem.W.Fast.tw13552485857571619460 : True := trivial
theorem PySem.W.Fast.tw8514727219493288612 : True := trivial
theorem PySem.W.Fast.tw16702579711497592484 : True := trivial
theorem PySem.W.Fast.tw5304399562717824740 : True := trivial
theorem PySem.W.Fast.tw13234943473333614372 : True := trivial
theorem PySem.W.Fast.tw11534569295456123844 : True := trivial
theorem PySem.W.Fast.tw15685674050790513701 : True := trivial
theorem PySem.W.Fast.tw16698506213986907205 : True := trivial
theorem PySem.W.Fast.tw12528377753435939013 : True := trivial
theorem PySem.W.Fast.tw375072182189331685 : True := trivial
theorem PySem.W.Fast.tw6397583689920048357 : True := trivial
theorem PySem.W.Fast.tw13941909885130647813 : True := trivial
theorem PySem.W.Fast.tw1081329133176940805 : True := trivial
theorem PySem.W.Fast.tw2727807817869798757 : True := trivial
theorem PySem.W.Fast.tw13391956113487303077 : True := trivial
theorem PySem.W.Fast.tw10190188457292341797 : True := trivial
theorem PySem.W.Fast.tw9012107941982444165 : True := trivial
theorem PySem.W.Fast.tw7363186617568942757 : True := trivial
theorem PySem.W.Fast.tw4529570069019732677 : True := trivial
theorem PySem.W.Fast.tw447151952067769093 : True := trivial
theorem PySem.W.Fast.tw15175736532765809445 : True := trivial
theorem PySem.W.Fast.tw5064495808901030693 : True := trivial
theorem PySem.W.Fast.tw16031280922462723941 : True := trivial
theorem PySem.W.Fast.tw8491347274284734502 : True := trivial
theorem PySem.W.Fast.tw12162063553831086150 : True := trivial
theorem PySem.W.Fast.tw12595486208629502118 : True := trivial
theorem PySem.W.Fast.tw13548389059840918790 : True := trivial
theorem PySem.W.Fast.tw10017143179046053222 : True := trivial
theorem PySem.W.Fast.tw2488294408497010054 : True := trivial
theorem PySem.W.Fast.tw11345830126916830662 : True := trivial
theorem PySem.W.Fast.tw1623766227558734310 : True := trivial
theorem PySem.W.Fast.tw7234819771444091430 : True := trivial
theorem PySem.W.Fast.tw8606563794323290694 : True := trivial
theorem PySem.W.Fast.tw9145473928781910662 : True := trivial
theorem PySem.W.Fast.tw15127539730477444774 : True := trivial
theorem PySem.W.Fast.tw9078869863972861606 : True := trivial
theorem PySem.W.Fast.tw618392740819289798 : True := trivial
theorem PySem.W.Fast.tw5718121540580051686 : True := trivial
theorem PySem.W.Fast.tw3967797417420746470 : True := trivial
theorem PySem.W.Fast.tw7273528744901177126 : True := trivial
theorem PySem.W.Fast.tw932777642969618278 : True := trivial
theorem PySem.W.Fast.tw1307833560163951558 : True := trivial
theorem PySem.W.Fast.tw4399317733562332102 : True := trivial
theorem PySem.W.Fast.tw16287926547218793735 : True := trivial
theorem PySem.W.Fast.tw15791745148235925767 : True := trivial
theorem PySem.W.Fast.tw5214747917924339047 : True := trivial
theorem PySem.W.Fast.tw16009934494897835559 : True := trivial
theorem PySem.W.Fast.tw6644516927308623527 : True := trivial
theorem PySem.W.Fast.tw13059093230920158919 : True := trivial
theorem PySem.W.Fast.tw11976107289297202151 : True := trivial
theorem PySem.W.Fast.tw17039912579420194856 : True := trivial
theorem PySem.W.Fast.tw368906455683311720 : True := trivial
theorem PySem.W.Fast.tw15416421438091083912 : True := trivial
theorem PySem.W.Fast.tw12901900537592925544 : True := trivial
theorem PySem.W.Fast.tw13442861285730336200 : True := trivial
theorem PySem.W.Fast.tw877645644145641960 : True := trivial
theorem PySem.W.Fast.tw3396699856171363944 : True := trivial
theorem PySem.W.Fast.tw5718520533375991464 : True := trivial
theorem PySem.W.Fast.tw4022580529992105736 : True := trivial
theorem PySem.W.Fast.tw9877599374996483880 : True := trivial
theorem PySem.W.Fast.tw10376761163580988232 : True := trivial
theorem PySem.W.Fast.tw2074827256795098952 : True := trivial
theorem PySem.W.Fast.tw7287837839258051432 : True := trivial
theorem PySem.W.Fast.tw16055863481954931592 : True := trivial
theorem PySem.W.Fast.tw14931610009641761704 : True := trivial
theorem PySem.W.Fast.tw6055000241817911272 : True := trivial
theorem PySem.W.Fast.tw4369361742212576297 : True := trivial
theorem PySem.W.Fast.tw12099813060762222665 : True := trivial
theorem PySem.W.Fast.tw5142998230508775529 : True := trivial
theorem PySem.W.Fast.tw7078053734966721929 : True := trivial
theorem PySem.W.Fast.tw15455431970081794601 : True := trivial
theorem PySem.W.Fast.tw14235396795116578537 : True := trivial
theorem PySem.W.Fast.tw9157566662165111721 : True := trivial
theorem PySem.W.Fast.tw17131787299171661866 : True := trivial
theorem PySem.W.Fast.tw8573582939165312042 : True := trivial
theorem PySem.W.Fast.tw4586738711082104106 : True := trivial
theorem PySem.W.Fast.tw6050271856252445002 : True := trivial
theorem PySem.W.Fast.tw1401119555322441034 : True := trivial
theorem PySem.W.Fast.tw12887599393384652234 : True := trivial
theorem PySem.W.Fast.tw15069056398341807562 : True := trivial
theorem PySem.W.Fast.tw4196221268576259626 : True := trivial
theorem PySem.W.Fast.tw17105164362570761898 : True := trivial
theorem PySem.W.Fast.tw4956257646972741322 : True := trivial
theorem PySem.W.Fast.tw13208781981733706634 : True := trivial
theorem PySem.W.Fast.tw13500549634293984202 : True := trivial
theorem PySem.W.Fast.tw10605460006180402219 : True := trivial
theorem PySem.W.Fast.tw10259936281833867403 : True := trivial
theorem PySem.W.Fast.tw7670427744182834379 : True := trivial
theorem PySem.W.Fast.tw16668985036321979659 : True := trivial
theorem PySem.W.Fast.tw1560654332639876395 : True := trivial
theorem PySem.W.Fast.tw14873861425103689035 : True := trivial
theorem PySem.W.Fast.tw3170061366979742091 : True := trivial
theorem PySem.W.Fast.tw9077698005933780395 : True := trivial
theorem PySem.W.Fast.tw9380101383207025163 : True := trivial
theorem PySem.W.Fast.tw1211282891801245259 : True := trivial
theorem PySem.W.Fast.tw15716981043819149899 : True := trivial
theorem PySem.W.Fast.tw10597784965699419787 : True := trivial
theorem PySem.W.Fast.tw2243399046414040747 : True := trivial
theorem PySem.W.Fast.tw9005809880913468107 : True := trivial
theorem PySem.W.Fast.tw18203331311202280203 : True := trivial
theorem PySem.W.Fast.tw9463595227569058571 : True := trivial
theorem PySem.W.Fast.tw14370018272725460811 : True := trivial
theorem PySem.W.Fast.tw14132557572839371595 : True := trivial
theorem PySem.W.Fast.tw12056290863485144939 : True := trivial
theorem PySem.W.Fast.tw330613030439886731 : True := trivial
theorem PySem.W.Fast.tw2245499616507587531 : True := trivial
theorem PySem.W.Fast.tw10409416717897265228 : True := trivial
theorem PySem.W.Fast.tw14180390208043584652 : True := trivial
theorem PySem.W.Fast.tw7198098325531119788 : True := trivial
theorem PySem.W.Fast.tw11659327791779523852 : True := trivial
theorem PySem.W.Fast.tw3811615060998313292 : True := trivial
theorem PySem.W.Fast.tw17609684727861359084 : True := trivial
theorem PySem.W.Fast.tw11100317651650358796 : True := trivial
theorem PySem.W.Fast.tw5673819432703287820 : True := trivial
theorem PySem.W.Fast.tw16725432971330683436 : True := trivial
theorem PySem.W.Fast.tw16697357247680927404 : True := trivial
theorem PySem.W.Fast.tw11523895976677693132 : True := trivial
theorem PySem.W.Fast.tw3436440705051740940 : True := trivial
theorem PySem.W.Fast.tw12287153792006890348 : True := trivial
theorem PySem.W.Fast.tw18284449709402491917 : True := trivial
theorem PySem.W.Fast.tw16006025711024222317 : True := trivial
theorem PySem.W.Fast.tw8789750029148474541 : True := trivial
theorem PySem.W.Fast.tw17538390728638213293 : True := trivial
theorem PySem.W.Fast.tw2528198567440088269 : True := trivial
theorem PySem.W.Fast.tw11206958769522632045 : True := trivial
theorem PySem.W.Fast.tw13340772038833583533 : True := trivial
theorem PySem.W.Fast.tw15642031638962869773 : True := trivial
theorem PySem.W.Fast.tw13004804722746674797 : True := trivial
theorem PySem.W.Fast.tw8856645821315364685 : True := trivial
theorem PySem.W.Fast.tw11402607223600664525 : True := trivial
theorem PySem.W.Fast.tw11976010590688638990 : True := trivial
theorem PySem.W.Fast.tw4501387192856557678 : True := trivial
theorem PySem.W.Fast.tw4523636410271390158 : True := trivial
theorem PySem.W.Fast.tw6828523679384889838 : True := trivial
theorem PySem.W.Fast.tw12899633224412904174 : True := trivial
theorem PySem.W.Fast.tw15594436647139616654 : True := trivial
theorem PySem.W.Fast.tw16994177390395101102 : True := trivial
theorem PySem.W.Fast.tw7150485403314459566 : True := trivial
theorem PySem.W.Fast.tw15381702293790827470 : True := trivial
theorem PySem.W.Fast.tw17517236870436425743 : True := trivial
theorem PySem.W.Fast.tw10683920697528390703 : True := trivial
theorem PySem.W.Fast.tw4364409954521319471 : True := trivial
theorem PySem.W.Fast.tw6509855215895428207 : True := trivial
theorem PySem.W.Fast.tw6844192168012779631 : True := trivial
theorem PySem.W.Fast.tw7370691743306235023 : True := trivial
theorem PySem.W.Fast.tw3386872033351352495 : True := trivial
theorem PySem.W.Fast.tw3270607743049712111 : True := trivial
theorem PySem.W.Fast.tw866723915124651567 : True := trivial
theorem PySem.W.Fast.tw465687253093811791 : True := trivial
theorem PySem.W.Fast.tw2867479318803141295 : True := trivial
theorem PySem.W.Fast.tw18054627176863586063 : True := trivial
theorem PySem.W.Fast.tw930412331127662351 : True := trivial
theorem PySem.W.Fast.tw12945578222452765583 : True := trivial
theorem PySem.W.Fast.tw16098698727945386959 : True := trivial
theorem PySem.W.Fast.tw3713537777679116464 : True := trivial
theorem PySem.W.Fast.tw7699509471236087984 : True := trivial
theorem PySem.W.Fast.tw5429566875255177424 : True := trivial
theorem PySem.W.Fast.tw7951569509337936144 : True := trivial
theorem PySem.W.Fast.tw11383021871667940784 : True := trivial
theorem PySem.W.Fast.tw10129061819856979472 : True := trivial
theorem PySem.W.Fast.tw6890627338888302288 : True := trivial
theorem PySem.W.Fast.tw4721311036465511184 : True := trivial
theorem PySem.W.Fast.tw720025212003436368 : True := trivial
theorem PySem.W.Fast.tw10039203187419287504 : True := trivial
theorem PySem.W.Fast.tw17884000517016821744 : True := trivial
theorem PySem.W.Fast.tw13712031632752694417 : True := trivial
theorem PySem.W.Fast.tw4469554099700528305 : True := trivial
theorem PySem.W.Fast.tw5384406444567731569 : True := trivial
theorem PySem.W.Fast.tw12604076437211634065 : True := trivial
theorem PySem.W.Fast.tw10269370275358468625 : True := trivial
theorem PySem.W.Fast.tw11293229192395378193 : True := trivial
theorem PySem.W.Fast.tw16809411459816898065 : True := trivial
theorem PySem.W.Fast.tw805158211478459985 : True := trivial
theorem PySem.W.Fast.tw10362254123683887761 : True := trivial
theorem PySem.W.Fast.tw4668362909155880625 : True := trivial
theorem PySem.W.Fast.tw18156999573763220177 : True := trivial
theorem PySem.W.Fast.tw17108401490537450289 : True := trivial
theorem PySem.W.Fast.tw17506810782266645361 : True := trivial
theorem PySem.W.Fast.tw4713323266162173809 : True := trivial
theorem PySem.W.Fast.tw13487390906190509969 : True := trivial
theorem PySem.W.Fast.tw6158613163376000913 : True := trivial
theorem PySem.W.Fast.tw15114835123696323473 : True := trivial
theorem PySem.W.Fast.tw6622764801229389745 : True := trivial
theorem PySem.W.Fast.tw16980380190844819538 : True := trivial
theorem PySem.W.Fast.tw2139243492573099218 : True := trivial
theorem PySem.W.Fast.tw15368482877788477682 : True := trivial
theorem PySem.W.Fast.tw16631254482435202514 : True := trivial
theorem PySem.W.Fast.tw10723556004348151346 : True := trivial
theorem PySem.W.Fast.tw14184138764188937874 : True := trivial
theorem PySem.W.Fast.tw13274784464217835314 : True := trivial
theorem PySem.W.Fast.tw4857274472696608594 : True := trivial
theorem PySem.W.Fast.tw16417680781420571763 : True := trivial
theorem PySem.W.Fast.tw44924746274552979 : True := trivial
theorem PySem.W.Fast.tw12493126083118782739 : True := trivial
theorem PySem.W.Fast.tw422690626488728083 : True := trivial
theorem PySem.W.Fast.tw9840835413909992019 : True := trivial
theorem PySem.W.Fast.tw812595307961254515 : True := trivial
theorem PySem.W.Fast.tw1948052665322753715 : True := trivial
theorem PySem.W.Fast.tw1637643155339343667 : True := trivial
theorem PySem.W.Fast.tw6563376739092745236 : True := trivial
theorem PySem.W.Fast.tw169472142062242868 : True := trivial
theorem PySem.W.Fast.tw17015748481795271796 : True := trivial
theorem PySem.W.Fast.tw7317060411589320884 : True := trivial
theorem PySem.W.Fast.tw11174805154125462740 : True := trivial
theorem PySem.W.Fast.tw16049708080731914516 : True := trivial
theorem PySem.W.Fast.tw9867639595282570644 : True := trivial
theorem PySem.W.Fast.tw18262499323967986068 : True := trivial
theorem PySem.W.Fast.tw144804656190499252 : True := trivial
theorem PySem.W.Fast.tw15942823620685228500 : True := trivial
theorem PySem.W.Fast.tw17874111893200142996 : True := trivial
theorem PySem.W.Fast.tw11177045728399264468 : True := trivial
theorem PySem.W.Fast.tw5046165104653700948 : True := trivial
theorem PySem.W.Fast.tw12778347798717127540 : True := trivial
theorem PySem.W.Fast.tw2540948687237081012 : True := trivial
theorem PySem.W.Fast.tw13982082040485545940 : True := trivial
theorem PySem.W.Fast.tw5395162883778347061 : True := trivial
theorem PySem.W.Fast.tw13983047412556097685 : True := trivial
theorem PySem.W.Fast.tw17851405669642535093 : True := trivial
theorem PySem.W.Fast.tw8598711040209384757 : True := trivial
theorem PySem.W.Fast.tw5594079631773169013 : True := trivial
theorem PySem.W.Fast.tw15448684456102706613 : True := trivial
theorem PySem.W.Fast.tw861075663911055957 : True := trivial
theorem PySem.W.Fast.tw17260671853205370453 : True := trivial
theorem PySem.W.Fast.tw1808182833958206069 : True := trivial
theorem PySem.W.Fast.tw17532165672882426517 : True := trivial
theorem PySem.W.Fast.tw17895059937837061909 : True := trivial
theorem PySem.W.Fast.tw13581932307146385173 : True := trivial
theorem PySem.W.Fast.tw2221558294683546581 : True := trivial
theorem PySem.W.Fast.tw17984339350132122838 : True := trivial
theorem PySem.W.Fast.tw16205437458541730038 : True := trivial
theorem PySem.W.Fast.tw7336803643446050070 : True := trivial
theorem PySem.W.Fast.tw952155018527843894 : True := trivial
theorem PySem.W.Fast.tw9377283827038326390 : True := trivial
theorem PySem.W.Fast.tw6886854150735900310 : True := trivial
theorem PySem.W.Fast.tw10677059621665689238 : True := trivial
theorem PySem.W.Fast.tw4119615612043751158 : True := trivial
theorem PySem.W.Fast.tw12594635926750700438 : True := trivial
theorem PySem.W.Fast.tw11535939577559263222 : True := trivial
theorem PySem.W.Fast.tw1928077623082150967 : True := trivial
theorem PySem.W.Fast.tw17054669719630275735 : True := trivial
theorem PySem.W.Fast.tw13344644109721474327 : True := trivial
theorem PySem.W.Fast.tw9473796608970766679 : True := trivial
theorem PySem.W.Fast.tw17011253114649990583 : True := trivial
theorem PySem.W.Fast.tw8022873695326933527 : True := trivial
theorem PySem.W.Fast.tw9372853111288874551 : True := trivial
theorem PySem.W.Fast.tw16834284605390501431 : True := trivial
theorem PySem.W.Fast.tw7040059107839153879 : True := trivial
theorem PySem.W.Fast.tw15981933520973538039 : True := trivial
theorem PySem.W.Fast.tw12311418237581684695 : True := trivial
theorem PySem.W.Fast.tw14695970067874468888 : True := trivial
theorem PySem.W.Fast.tw1700472720925852760 : True := trivial
theorem PySem.W.Fast.tw5297485933066946648 : True := trivial
theorem PySem.W.Fast.tw8788504144005387352 : True := trivial
theorem PySem.W.Fast.tw6714973026264792472 : True := trivial
theorem PySem.W.Fast.tw3720707711776645560 : True := trivial
theorem PySem.W.Fast.tw13862199250744093240 : True := trivial
theorem PySem.W.Fast.tw16439453034511458904 : True := trivial
theorem PySem.W.Fast.tw8259188736419591864 : True := trivial
theorem PySem.W.Fast.tw16907576641153579736 : True := trivial
theorem PySem.W.Fast.tw11819778679809782520 : True := trivial
theorem PySem.W.Fast.tw11078617306050525048 : True := trivial
theorem PySem.W.Fast.tw12251306520228754424 : True := trivial
theorem PySem.W.Fast.tw843306239286919225 : True := trivial
theorem PySem.W.Fast.tw7384100412825532569 : True := trivial
theorem PySem.W.Fast.tw10015125088125263097 : True := trivial
theorem PySem.W.Fast.tw15655641293224484377 : True := trivial
theorem PySem.W.Fast.tw4828738747075895929 : True := trivial
theorem PySem.W.Fast.tw13014562025991959161 : True := trivial
theorem PySem.W.Fast.tw6615098117915308697 : True := trivial
theorem PySem.W.Fast.tw6085527019461699513 : True := trivial
theorem PySem.W.Fast.tw2758894021404364729 : True := trivial
theorem PySem.W.Fast.tw8563434670707849562 : True := trivial
theorem PySem.W.Fast.tw10524407940157671834 : True := trivial
theorem PySem.W.Fast.tw17857016834476477914 : True := trivial
theorem PySem.W.Fast.tw10368789383305843290 : True := trivial
theorem PySem.W.Fast.tw2955363779593323130 : True := trivial
theorem PySem.W.Fast.tw5172546057548270394 : True := trivial
theorem PySem.W.Fast.tw917059707572626266 : True := trivial
theorem PySem.W.Fast.tw1257899786040635226 : True := trivial
theorem PySem.W.Fast.tw6796303643875526554 : True := trivial
theorem PySem.W.Fast.tw3967298693129184154 : True := trivial
theorem PySem.W.Fast.tw16377373812706895834 : True := trivial
theorem PySem.W.Fast.tw1716564944059335674 : True := trivial
theorem PySem.W.Fast.tw8544683508144744539 : True := trivial
theorem PySem.W.Fast.tw6685144109469849787 : True := trivial
theorem PySem.W.Fast.tw13866684627635777787 : True := trivial
theorem PySem.W.Fast.tw191679966916351323 : True := trivial
theorem PySem.W.Fast.tw10037153976717673883 : True := trivial
theorem PySem.W.Fast.tw16540806906118916603 : True := trivial
theorem PySem.W.Fast.tw7174969903054792219 : True := trivial
theorem PySem.W.Fast.tw18248883870491750011 : True := trivial
theorem PySem.W.Fast.tw7556474559717033627 : True := trivial
theorem PySem.W.Fast.tw17997418180344793755 : True := trivial
theorem PySem.W.Fast.tw17231282436901296827 : True := trivial
theorem PySem.W.Fast.tw12460460135011672955 : True := trivial
theorem PySem.W.Fast.tw15253618538562373660 : True := trivial
theorem PySem.W.Fast.tw7517666322089718844 : True := trivial
theorem PySem.W.Fast.tw16923108905070944348 : True := trivial
theorem PySem.W.Fast.tw13370128939062870172 : True := trivial
theorem PySem.W.Fast.tw7931643396883684636 : True := trivial
theorem PySem.W.Fast.tw11025079439847091484 : True := trivial
theorem PySem.W.Fast.tw2787667435481376092 : True := trivial
theorem PySem.W.Fast.tw11470373911955895740 : True := trivial
theorem PySem.W.Fast.tw14002450330691893788 : True := trivial
theorem PySem.W.Fast.tw11579119621001954876 : True := trivial
theorem PySem.W.Fast.tw6266617982497882812 : True := trivial
theorem PySem.W.Fast.tw17275032542251212476 : True := trivial
theorem PySem.W.Fast.tw13806479774130477852 : True := trivial
theorem PySem.W.Fast.tw6458606387944345436 : True := trivial
theorem PySem.W.Fast.tw6375957136171527036 : True := trivial
theorem PySem.W.Fast.tw2175815387749285788 : True := trivial
theorem PySem.W.Fast.tw8676916634835505181 : True := trivial
theorem PySem.W.Fast.tw5341608535065423901 : True := trivial
theorem PySem.W.Fast.tw6467224076125887613 : True := trivial
theorem PySem.W.Fast.tw16711468498760336509 : True := trivial
theorem PySem.W.Fast.tw8463538761589106845 : True := trivial
theorem PySem.W.Fast.tw9678144649696553181 : True := trivial
theorem PySem.W.Fast.tw4354215068384230685 : True := trivial
theorem PySem.W.Fast.tw17535174372297243965 : True := trivial
theorem PySem.W.Fast.tw9368594612117927293 : True := trivial
theorem PySem.W.Fast.tw15019934228784834941 : True := trivial
theorem PySem.W.Fast.tw4291149146112487805 : True := trivial
theorem PySem.W.Fast.tw2110256306624385469 : True := trivial
theorem PySem.W.Fast.tw3835946454183009725 : True := trivial
theorem PySem.W.Fast.tw14107365633969175997 : True := trivial
theorem PySem.W.Fast.tw2617244831377696253 : True := trivial
theorem PySem.W.Fast.tw2242316052920411645 : True := trivial
theorem PySem.W.Fast.tw13281478464572013053 : True := trivial
theorem PySem.W.Fast.tw822887129072469629 : True := trivial
theorem PySem.W.Fast.tw12442485135115057821 : True := trivial
theorem PySem.W.Fast.tw6647765545455105693 : True := trivial
theorem PySem.W.Fast.tw5149011551175475933 : True := trivial
theorem PySem.W.Fast.tw11981306406942707421 : True := trivial
theorem PySem.W.Fast.tw9214545413028976349 : True := trivial
theorem PySem.W.Fast.tw1644142319652411229 : True := trivial
theorem PySem.W.Fast.tw5023634581245052893 : True := trivial
theorem PySem.W.Fast.tw14353928058744287229 : True := trivial
theorem PySem.W.Fast.tw2915886483232759102 : True := trivial
theorem PySem.W.Fast.tw7689320514376946110 : True := trivial
theorem PySem.W.Fast.tw13417230151243611742 : True := trivial
theorem PySem.W.Fast.tw555393259471842942 : True := trivial
theorem PySem.W.Fast.tw10679521703128759934 : True := trivial
theorem PySem.W.Fast.tw6567595326531325694 : True := trivial
theorem PySem.W.Fast.tw13543765618389399326 : True := trivial
theorem PySem.W.Fast.tw10631821513014225790 : True := trivial
theorem PySem.W.Fast.tw11949932559309224862 : True := trivial
theorem PySem.W.Fast.tw16572242398693480382 : True := trivial
theorem PySem.W.Fast.tw9906950882823552990 : True := trivial
theorem PySem.W.Fast.tw1557024465986397150 : True := trivial
theorem PySem.W.Fast.tw13914034358585438303 : True := trivial
theorem PySem.W.Fast.tw3018718679207999871 : True := trivial
theorem PySem.W.Fast.tw3352412545321886207 : True := trivial
theorem PySem.W.Fast.tw8084403091782020703 : True := trivial
theorem PySem.W.Fast.tw15757990436173690559 : True := trivial
theorem PySem.W.Fast.tw3248915761056320255 : True := trivial
theorem PySem.W.Fast.tw3284408323708623615 : True := trivial
theorem PySem.W.Fast.tw13026920000664790783 : True := trivial
theorem PySem.W.Fast.tw878239311510898591 : True := trivial
theorem PySem.W.Fast.tw2467371228629589983 : True := trivial
theorem PySem.W.Fast.tw14138262489384182751 : True := trivial
open PySem PySem.W PyProof.Rows
set_option maxRecDepth 100000 in
set_option maxHeartbeats 0 in
theorem PySem.Challenge.cw_lugtrain_k22_boxes_refused_holds : PySem.Challenge.rw_lugtrain_k22_boxes_refused.Holds := by
  w_on; o_law; k_head; (case hw => w_witness2)
  k_fill
  refine My.walk (l := PySem.Challenge.rw_lugtrain_k22_boxes_refused) rfl rfl (fun w h Y => PySem.W.kIn_of Y) ?F
  case F =>
    intro w mg fa h KX G hmg
    refine' My.all_mk KX G hmg ?a_law_draws ?l_law_draws ?c_law_draws ?k_law_draws ?a_law_a_kin ?l_law_a_kin ?c_law_a_kin ?k_law_a_kin ?a_law_due_kin ?l_law_due_kin ?c_law_due_kin ?k_law_due_kin ?a_refuse_no_top ?l_refuse_no_top ?c_refuse_no_top ?k_refuse_no_top ?a_refuse_no_place ?l_refuse_no_place ?c_refuse_no_place ?k_refuse_no_place ?a_Switch___init__ ?i_Switch___init__ ?l_Switch___init__ ?c_Switch___init__ ?k_Switch___init__ ?a_Switch_turn ?i_Switch_turn ?l_Switch_turn ?c_Switch_turn ?k_Switch_turn ?a_Switch_on ?i_Switch_on ?l_Switch_on ?c_Switch_on ?k_Switch_on ?a_switch_within ?l_switch_within ?c_switch_within ?k_switch_within ?a_Box___init__ ?i_Box___init__ ?l_Box___init__ ?c_Box___init__ ?k_Box___init__ ?a_Box_lit ?i_Box_lit ?l_Box_lit ?c_Box_lit ?k_Box_lit ?a_Box_answer ?i_Box_answer ?l_Box_answer ?c_Box_answer ?k_Box_answer ?a_Box_turn ?i_Box_turn ?l_Box_turn ?c_Box_turn ?k_Box_turn ?a_Box_anew ?i_Box_anew ?l_Box_anew ?c_Box_anew ?k_Box_anew ?a_first_return ?l_first_return ?c_first_return ?k_first_return ?a_returns_of ?l_returns_of ?c_returns_of ?k_returns_of ?a_answers_of ?l_answers_of ?c_answers_of ?k_answers_of ?a_teller_of ?l_teller_of ?c_teller_of ?k_teller_of ?a_law_ask ?l_law_ask ?c_law_ask ?k_law_ask ?a_law_asked ?l_law_asked ?c_law_asked ?k_law_asked ?a_law_a_due ?l_law_a_due ?c_law_a_due ?k_law_a_due ?a_law_case ?l_law_case ?c_law_case ?k_law_case ?a_law ?l_law ?c_law ?k_law ?z_ValueError ?z_enumerate ?z_int ?z_isinstance ?z_len ?z_list ?z_max ?z_min ?z_range ?z_sum ?g_MOST_TOP ?w_Switch ?w_Box ?pg_Switch ?hd_Switch ?po_Switch ?sa_Switch ?mk_Switch ?kc_Switch ?na_Switch_low ?na_Switch_high ?na_Switch_is_on ?pg_Box ?hd_Box ?po_Box ?sa_Box ?mk_Box ?kc_Box ?na_Box_top ?na_Box_switches ?na_Box_weights ?na_Box_at ?n_TrainError ?n_NoTrain ?n_NoStand ?n_NoPaper ?n_NoBox ?n_NoSwitch ?n_NoPlace ?n_NoTable ?n_NoText ?n_NoRow ?n_NoPiece ?n_NothingLeft ?n_TooMany ?x_NoBox ?e_NoBox ?i_NoBox_ga ?i_NoBox_gt ?i_NoBox_mb ?i_NoBox_hd ?i_NoBox_ca ?i_NoBox_sp ?i_NoBox_tk ?i_NoBox_mr ?k_NoBox_NoTrain ?k_NoBox_NoStand ?k_NoBox_NoPaper ?k_NoBox_NoBox ?k_NoBox_NoSwitch ?k_NoBox_NoPlace ?k_NoBox_NoTable ?k_NoBox_NoText ?k_NoBox_NoRow ?k_NoBox_NoPiece ?k_NoBox_NothingLeft ?k_NoBox_TooMany ?k_NoBox_ValueError ?x_NoSwitch ?e_NoSwitch ?i_NoSwitch_ga ?i_NoSwitch_gt ?i_NoSwitch_mb ?i_NoSwitch_hd ?i_NoSwitch_ca ?i_NoSwitch_sp ?i_NoSwitch_tk ?i_NoSwitch_mr ?k_NoSwitch_NoTrain ?k_NoSwitch_NoStand ?k_NoSwitch_NoPaper ?k_NoSwitch_NoBox ?k_NoSwitch_NoSwitch ?k_NoSwitch_NoPlace ?k_NoSwitch_NoTable ?k_NoSwitch_NoText ?k_NoSwitch_NoRow ?k_NoSwitch_NoPiece ?k_NoSwitch_NothingLeft ?k_NoSwitch_TooMany ?k_NoSwitch_ValueError ?x_NoPlace ?e_NoPlace ?i_NoPlace_ga ?i_NoPlace_gt ?i_NoPlace_mb ?i_NoPlace_hd ?i_NoPlace_ca ?i_NoPlace_sp ?i_NoPlace_tk ?i_NoPlace_mr ?k_NoPlace_NoTrain ?k_NoPlace_NoStand ?k_NoPlace_NoPaper ?k_NoPlace_NoBox ?k_NoPlace_NoSwitch ?k_NoPlace_NoPlace ?k_NoPlace_NoTable ?k_NoPlace_NoText ?k_NoPlace_NoRow ?k_NoPlace_NoPiece ?k_NoPlace_NothingLeft ?k_NoPlace_TooMany ?k_NoPlace_ValueError
    (case w_Switch => k_is)
    (case w_Box => k_is)
    (case a_law_draws => k_is)
    (case l_law_draws => k_is)
    (case c_law_draws => k_is)
    (case k_law_draws => k_is)
    (case a_law_a_kin => k_is)
    (case l_law_a_kin => k_is)
    (case c_law_a_kin => k_is)
    (case k_law_a_kin => k_is)
    (case a_law_due_kin => k_is)
    (case l_law_due_kin => k_is)
    (case c_law_due_kin => k_is)
    (case k_law_due_kin => k_is)
    (case a_refuse_no_top => k_is)
    (case l_refuse_no_top => k_is)
    (case c_refuse_no_top => k_is)
    (case k_refuse_no_top => k_is)
    (case a_refuse_no_place => k_is)
    (case l_refuse_no_place => k_is)
    (case c_refuse_no_place => k_is)
    (case k_refuse_no_place => k_is)
    (case a_Switch___init__ => k_is)
    (case i_Switch___init__ => k_is)
    (case l_Switch___init__ => k_is)
    (case c_Switch___init__ => k_is)
    (case k_Switch___init__ => k_is)
    (case a_Switch_turn => k_is)
    (case i_Switch_turn => k_is)
    (case l_Switch_turn => k_is)
    (case c_Switch_turn => k_is)
    (case k_Switch_turn => k_is)
    (case a_Switch_on => k_is)
    (case i_Switch_on => k_is)
    (case l_Switch_on => k_is)
    (case c_Switch_on => k_is)
    (case k_Switch_on => k_is)
    (case a_switch_within => k_is)
    (case l_switch_within => k_is)
    (case c_switch_within => k_is)
    (case k_switch_within => k_is)
    (case a_Box___init__ => k_is)
    (case i_Box___init__ => k_is)
    (case l_Box___init__ => k_is)
    (case c_Box___init__ => k_is)
    (case k_Box___init__ => k_is)
    (case a_Box_lit => k_is)
    (case i_Box_lit => k_is)
    (case l_Box_lit => k_is)
    (case c_Box_lit => k_is)
    (case k_Box_lit => k_is)
    (case a_Box_answer => k_is)
    (case i_Box_answer => k_is)
    (case l_Box_answer => k_is)
    (case c_Box_answer => k_is)
    (case k_Box_answer => k_is)
    (case a_Box_turn => k_is)
    (case i_Box_turn => k_is)
    (case l_Box_turn => k_is)
    (case c_Box_turn => k_is)
    (case k_Box_turn => k_is)
    (case a_Box_anew => k_is)
    (case i_Box_anew => k_is)
    (case l_Box_anew => k_is)
    (case c_Box_anew => k_is)
    (case k_Box_anew => k_is)
    (case a_first_return => k_is)
    (case l_first_return => k_is)
    (case c_first_return => k_is)
    (case k_first_return => k_is)
    (case a_returns_of => k_is)
    (case l_returns_of => k_is)
    (case c_returns_of => k_is)
    (case k_returns_of => k_is)
    (case a_answers_of => k_is)
    (case l_answers_of => k_is)
    (case c_answers_of => k_is)
    (case k_answers_of => k_is)
    (case a_teller_of => k_is)
    (case l_teller_of => k_is)
    (case c_teller_of => k_is)
    (case k_teller_of => k_is)
    (case a_law_ask => k_is)
    (case l_law_ask => k_is)
    (case c_law_ask => k_is)
    (case k_law_ask => k_is)
    (case a_law_asked => k_is)
    (case l_law_asked => k_is)
    (case c_law_asked => k_is)
    (case k_law_asked => k_is)
    (case a_law_a_due => k_is)
    (case l_law_a_due => k_is)
    (case c_law_a_due => k_is)
    (case k_law_a_due => k_is)
    (case a_law_case => k_is)
    (case l_law_case => k_is)
    (case c_law_case => k_is)
    (case k_law_case => k_is)
    (case a_law => k_is)
    (case l_law => k_is)
    (case c_law => k_is)
    (case k_law => k_is)
    (case z_ValueError => k_is)
    (case z_enumerate => k_is)
    (case z_int => k_is)
    (case z_isinstance => k_is)
    (case z_len => k_is)
    (case z_list => k_is)
    (case z_max => k_is)
    (case z_min => k_is)
    (case z_range => k_is)
    (case z_sum => k_is)
    (case g_MOST_TOP => k_is)
    (case pg_Switch => k_is)
    (case hd_Switch => k_is)
    (case po_Switch => k_is)
    (case sa_Switch => k_is)
    (case mk_Switch => k_is)
    (case kc_Switch => k_is)
    (case na_Switch_low => k_is)
    (case na_Switch_high => k_is)
    (case na_Switch_is_on => k_is)
    (case pg_Box => k_is)
    (case hd_Box => k_is)
    (case po_Box => k_is)
    (case sa_Box => k_is)
    (case mk_Box => k_is)
    (case kc_Box => k_is)
    (case na_Box_top => k_is)
    (case na_Box_switches => k_is)
    (case na_Box_weights => k_is)
    (case na_Box_at => k_is)
    (case n_TrainError => k_is)
    (case n_NoTrain => k_is)
    (case n_NoStand => k_is)
    (case n_NoPaper => k_is)
    (case n_NoBox => k_is)
    (case n_NoSwitch => k_is)
    (case n_NoPlace => k_is)
    (case n_NoTable => k_is)
    (case n_NoText => k_is)
    (case n_NoRow => k_is)
    (case n_NoPiece => k_is)
    (case n_NothingLeft => k_is)
    (case n_TooMany => k_is)
    (case x_NoBox => k_exc)
    (case e_NoBox => kts_exm)
    (case i_NoBox_ga => k_is)
    (case i_NoBox_gt => k_is)
    (case i_NoBox_mb => k_is)
    (case i_NoBox_hd => k_is)
    (case i_NoBox_ca => k_is)
    (case i_NoBox_sp => k_is)
    (case i_NoBox_tk => k_is)
    (case i_NoBox_mr => k_is)
    (case k_NoBox_NoTrain => kit_is)
    (case k_NoBox_NoStand => kit_is)
    (case k_NoBox_NoPaper => kit_is)
    (case k_NoBox_NoBox => kit_is)
    (case k_NoBox_NoSwitch => kit_is)
    (case k_NoBox_NoPlace => kit_is)
    (case k_NoBox_NoTable => kit_is)
    (case k_NoBox_NoText => kit_is)
    (case k_NoBox_NoRow => kit_is)
    (case k_NoBox_NoPiece => kit_is)
    (case k_NoBox_NothingLeft => kit_is)
    (case k_NoBox_TooMany => kit_is)
    (case k_NoBox_ValueError => kit_is)
    (case x_NoSwitch => k_exc)
    (case e_NoSwitch => kts_exm)
    (case i_NoSwitch_ga => k_is)
    (case i_NoSwitch_gt => k_is)
    (case i_NoSwitch_mb => k_is)
    (case i_NoSwitch_hd => k_is)
    (case i_NoSwitch_ca => k_is)
    (case i_NoSwitch_sp => k_is)
    (case i_NoSwitch_tk => k_is)
    (case i_NoSwitch_mr => k_is)
    (case k_NoSwitch_NoTrain => kit_is)
    (case k_NoSwitch_NoStand => kit_is)
    (case k_NoSwitch_NoPaper => kit_is)
    (case k_NoSwitch_NoBox => kit_is)
    (case k_NoSwitch_NoSwitch => kit_is)
    (case k_NoSwitch_NoPlace => kit_is)
    (case k_NoSwitch_NoTable => kit_is)
    (case k_NoSwitch_NoText => kit_is)
    (case k_NoSwitch_NoRow => kit_is)
    (case k_NoSwitch_NoPiece => kit_is)
    (case k_NoSwitch_NothingLeft => kit_is)
    (case k_NoSwitch_TooMany => kit_is)
    (case k_NoSwitch_ValueError => kit_is)
    (case x_NoPlace => k_exc)
    (case e_NoPlace => kts_exm)
    (case i_NoPlace_ga => k_is)
    (case i_NoPlace_gt => k_is)
    (case i_NoPlace_mb => k_is)
    (case i_NoPlace_hd => k_is)
    (case i_NoPlace_ca => k_is)
    (case i_NoPlace_sp => k_is)
    (case i_NoPlace_tk => k_is)
    (case i_NoPlace_mr => k_is)
    (case k_NoPlace_NoTrain => kit_is)
    (case k_NoPlace_NoStand => kit_is)
    (case k_NoPlace_NoPaper => kit_is)
    (case k_NoPlace_NoBox => kit_is)
    (case k_NoPlace_NoSwitch => kit_is)
    (case k_NoPlace_NoPlace => kit_is)
    (case k_NoPlace_NoTable => kit_is)
    (case k_NoPlace_NoText => kit_is)
    (case k_NoPlace_NoRow => kit_is)
    (case k_NoPlace_NoPiece => kit_is)
    (case k_NoPlace_NothingLeft => kit_is)
    (case k_NoPlace_TooMany => kit_is)
    (case k_NoPlace_ValueError => kit_is)

