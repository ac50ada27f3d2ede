import PyProof.Rows.All
import Wide.All
import OpenK.AllK
import Wide.FinOn
import Lean
import PyProof.EqAt
import PyProof.EqKinds
import PyProof.TupleCall
import PyProof.StationsW
import PyProof.ExcAttrAll.ValueError
import PySem.Challenge.RW_lugtrain_k31_texts_read_and_shown

set_option Elab.async false
set_option linter.all false
set_option maxRecDepth 100000
/-! THE HAND LAYER, for ints, bools, texts, own classes, LISTS and tuples (index, slices, in, append, pop ..), calls, loops. Paste it whole ahead of your own text; what your proof does not reach may be deleted. -/
namespace L2
open PySem PySem.Spec PyProof.Rows

/-- a key: an int or a str -/
abbrev Key := Sum Int Str
def keyIs : Key → Value → Bool
  | .inl k, v => Value.isInt k v
  | .inr x, v => Value.isStrOf x v
def keyH (w : World) : Key → Int
  | .inl k => hashInt k
  | .inr x => hashStr w x
theorem keyIs_shape : ∀ {k : Key} {v : Value}, keyIs k v = true → (∃ i t, k = Sum.inl i ∧ v = Value.int i t) ∨ (∃ x t, k = Sum.inr x ∧ v = Value.str x t)
  | .inl i, v, h => by
    obtain ⟨t, e⟩ := Value.isInt_shape (k := i) (v := v) h
    exact .inl ⟨i, t, rfl, e⟩
  | .inr x, v, h => by
    obtain ⟨t, e⟩ := Value.isStrOf_shape (x := x) (v := v) h
    exact .inr ⟨x, t, rfl, e⟩
theorem key_ll (a b : Int) : decide ((Sum.inl a : Key) = Sum.inl b) = (a == b) := by
  by_cases e : a = b
  · subst e; simp
  · have h : ¬ (Sum.inl a : Key) = Sum.inl b := fun q => e (Sum.inl.inj q)
    rw [decide_eq_false h]
    exact (beq_eq_false_iff_ne.mpr e).symm
theorem key_rr (a b : Str) : decide ((Sum.inr a : Key) = Sum.inr b) = decide (a = b) := by
  by_cases e : a = b
  · subst e; simp
  · have h : ¬ (Sum.inr a : Key) = Sum.inr b := fun q => e (Sum.inr.inj q)
    rw [decide_eq_false h, decide_eq_false e]
theorem key_lr (a : Int) (b : Str) : decide ((Sum.inl a : Key) = Sum.inr b) = false := decide_eq_false (fun q => nomatch q)
theorem key_rl (a : Str) (b : Int) : decide ((Sum.inr a : Key) = Sum.inl b) = false := decide_eq_false (fun q => nomatch q)

def mixKind (prog : Program) (w : World) : PySem.KeyKind prog w Key where
  is := keyIs
  hash := keyH w
  inj := fun v a b ha hb => by
    rcases keyIs_shape ha with ⟨i, t, rfl, rfl⟩ | ⟨x, t, rfl, rfl⟩
    · rcases keyIs_shape hb with ⟨j, u, rfl, e⟩ | ⟨y, u, rfl, e⟩
      · injection e with e1 _; rw [e1]
      · exact nomatch e
    · rcases keyIs_shape hb with ⟨j, u, rfl, e⟩ | ⟨y, u, rfl, e⟩
      · exact nomatch e
      · injection e with e1 _; rw [e1]
  byValue := fun k v h => by
    rcases keyIs_shape h with ⟨i, t, rfl, rfl⟩ | ⟨x, t, rfl, rfl⟩ <;> rfl
  pyHash := fun hv h => by
    rcases keyIs_shape hv with ⟨i, t, rfl, rfl⟩ | ⟨x, t, rfl, rfl⟩
    · exact wpAny_pyHash_int h
    · exact wpAny_pyHash_str h
  eqBool := fun hu hv h => by
    rcases keyIs_shape hu with ⟨i, t, rfl, rfl⟩ | ⟨x, t, rfl, rfl⟩
    · rcases keyIs_shape hv with ⟨j, u, rfl, rfl⟩ | ⟨y, u, rfl, rfl⟩
      · rw [key_ll] at h; exact wpAny_eqBool_int h
      · rw [key_lr] at h; exact SeqAt.EqAt.int_str i t y u _ _ _ _ h
    · rcases keyIs_shape hv with ⟨j, u, rfl, rfl⟩ | ⟨y, u, rfl, rfl⟩
      · rw [key_rl] at h; exact SeqAt.EqAt.str_int x t j u _ _ _ _ h
      · rw [key_rr] at h; exact wpAny_eqBool_str h
  «strs» := fun k x t v h => by
    rcases keyIs_shape h with ⟨i, u, rfl, e⟩ | ⟨y, u, rfl, e⟩
    · exact nomatch e
    · injection e with e1 _
      subst e1
      cases v <;> rfl

end L2

namespace L2
open PySem PySem.Spec PyProof.Rows

/-- a value, without the heap -/
inductive V where
  | non | bl (b : Bool) | int (i : Int) | str (x : Str) | byt (b : Array UInt8) | flt (b : UInt64) | ref (a : Addr) | ty (n : String)
  deriving DecidableEq

def RelV : V → Value → Prop
  | .non, u => u = Value.none
  | .bl b, u => u = Value.bool b
  | .int i, u => ∃ t, u = Value.int i t
  | .str x, u => ∃ t, u = Value.str x t
  | .byt b, u => ∃ t, u = Value.bytes b t
  | .flt b, u => ∃ t, u = Value.float b t
  | .ref a, u => u = Value.ref a
  | .ty n, u => u = Value.type n

abbrev Vals : List V → List Value → Prop := Paired RelV
theorem Vals.length {xs : List V} {us : List Value} (r : Vals xs us) : xs.length = us.length := Paired.length r
theorem Vals.get : ∀ {xs : List V} {us : List Value} {i : Nat} {x : V}, Vals xs us → xs[i]? = some x → ∃ u, us[i]? = some u ∧ RelV x u
  | _, _, _, _, .nil, e => by simp at e
  | _, _, 0, _, .cons r _, e => by simp at e; subst e; exact ⟨_, rfl, r⟩
  | _, _, i + 1, x, .cons _ t, e => by
    obtain ⟨u, h1, h2⟩ := Vals.get (i := i) (x := x) t (by simpa using e)
    exact ⟨u, by simpa using h1, h2⟩
theorem Vals.set {x : V} {u : Value} (r : RelV x u) : ∀ {xs : List V} {us : List Value} (i : Nat), Vals xs us → Vals (xs.set i x) (us.set i u)
  | _, _, _, .nil => .nil
  | _, _, 0, .cons _ t => .cons r t
  | _, _, i + 1, .cons q t => .cons q (Vals.set r i t)
theorem Vals.append : ∀ {xs ys : List V} {us ws : List Value}, Vals xs us → Vals ys ws → Vals (xs ++ ys) (us ++ ws)
  | _, _, _, _, .nil, s => s
  | _, _, _, _, .cons r t, s => .cons r (Vals.append t s)
theorem Vals.take : ∀ {xs : List V} {us : List Value} (n : Nat), Vals xs us → Vals (xs.take n) (us.take n)
  | _, _, 0, _ => .nil
  | _, _, _ + 1, .nil => .nil
  | _, _, n + 1, .cons r t => .cons r (Vals.take n t)
theorem Vals.drop : ∀ {xs : List V} {us : List Value} (n : Nat), Vals xs us → Vals (xs.drop n) (us.drop n)
  | _, _, 0, r => r
  | _, _, _ + 1, .nil => .nil
  | _, _, n + 1, .cons _ t => Vals.drop n t
def RelO : Option V → Option Value → Prop
  | some v, some u => RelV v u
  | none, none => True
  | _, _ => False
def KV {κ : Type} : List (κ × V) → List (κ × Value) → Prop := Paired fun (p : κ × V) (q : κ × Value) => p.1 = q.1 ∧ RelV p.2 q.2

/-- a key of a dict (00_mix): an int or a text -/
def kV : Key → V
  | .inl i => .int i
  | .inr x => .str x

/-- what stands at a tracked address -/
inductive HO where
  /-- a list -/
  | lst (xs : List V)
  /-- a tuple (never changes) -/
  | tup (xs : List V)
  /-- a dict whose keys are ints and texts; one whose keys are tuples of ints and texts (the empty one is both) -/
  | dK (kvs : List (Key × V)) | dT (kvs : List (List Key × V))
  /-- a set of ints: its members, its size -/
  | set (S : Int → Bool) (n : Nat)
  /-- an instance of the class at C, its dict at dx, its attributes -/
  | ins (C dx : Addr) (fs : List (Str × V))
  /-- the dict of the instance at x -/
  | own (x : Addr)
  /-- the dict of an exception -/
  | xd (fs : List (Str × V))
  /-- a bound method, f of x -/
  | met (f x : Addr)
  /-- a range object lo, lo + 1, .. below hi -/
  | rng (lo hi : Int)
  /-- a thing that is known to the object (the script; a dict while a loop walks it): read, never written while it is so -/
  | frz (o : Obj) (u : HO)
  /-- a code object's table -/
  | tbl (ps : Array Value)
  /-- any other thing, by what is true of its one object (a def of one's own: SetO a S n := HO.ext fun h => ..) -/
  | ext (φ : Heap → Prop)

abbrev Hp := Addr → Option HO
def upd (H : Hp) (a : Addr) (o : HO) : Hp := fun b => if b = a then some o else H b
theorem upd_same {H : Hp} {a : Addr} {o : HO} : upd H a o a = some o := by unfold upd; rw [if_pos rfl]
theorem upd_ne {H : Hp} {a b : Addr} {o : HO} (h : b ≠ a) : upd H a o b = H b := by unfold upd; rw [if_neg h]
theorem ne_of_none {H : Hp} {a b : Addr} {o : HO} (h : H a = some o) (h' : H b = none) : a ≠ b := by
  intro e; subst e; rw [h] at h'; cases h'

section
variable (P : Program) (w : World)
def ObjOk (H : Hp) (h : Heap) (a : Addr) : HO → Prop
  | .lst xs => xs.length ≤ sizeLine ∧ ∃ (its : List Value) (n : Nat), Vals xs its ∧ h.get? a = some { cls := .type "list", data := .seq its.toArray n }
  | .tup xs => xs.length ≤ sizeLine ∧ ∃ its : List Value, Vals xs its ∧ IsTup h a its.toArray
  | .dK kvs => kvs.length ≤ sizeLine ∧ (a == sysModules) = false ∧ ∃ vs, KV kvs vs ∧ h.DictOf (mixKind P w) a vs
  | .dT kvs => kvs.length ≤ sizeLine ∧ (a == sysModules) = false ∧ ∃ xs : List (List Key × Addr × Value),
      Paired (fun (p : List Key × V) (q : List Key × Addr × Value) => p.1 = q.1 ∧ H q.2.1 = some (.tup (p.1.map kV)) ∧ RelV p.2 q.2.2) kvs xs ∧
      ∃ o es ep, h.get? a = some o ∧ o.ExactDict ∧ o.data = .dict es ep ∧ es.toList = xs.map (entryOfKey (tupleKind (mixKind P w))) ∧ (xs.map (·.1)).Nodup
  | .set S n => h.SetOf (intKind P w) a S n
  | .ins C dx fs => H dx = some (.own a) ∧ fs.length ≤ 1000 ∧ dx ≠ a ∧ h.get? a = some (PySem.W.instObj C dx) ∧
      ∃ mA, h.Ns1 dx mA ∧ (∀ f, RelO (fs.lookup f) (mA f)) ∧ PySem.Within mA (fs.map (·.1))
  | .own _ => ∃ o, h.get? a = some o
  | .xd fs => ∃ mA, h.Ns1 a mA ∧ ∀ f, RelO (fs.lookup f) (mA f)
  | .rng lo hi => ∃ t u v, h.get? a = some { cls := .type "range", data := .fields #[.int lo t, .int hi u, .int 1 v] }
  | .frz o u => h.get? a = some o ∧ ObjOk H h a u
  | .tbl ps => h.get? a = some { cls := .none, data := .fields ps }
  | .met f x => h.get? a = some (PySem.W.methodObj (.ref f) (.ref x))
  | .ext φ => φ h ∧ (∃ o, h.get? a = some o) ∧ ∀ h1 h2 : Heap, φ h1 → (∀ o, h1.get? a = some o → h2.get? a = some o) → φ h2
/-- the abstract heap is held -/
def HOk (H : Hp) (h : Heap) : Prop := ∀ a o, H a = some o → ObjOk P w H h a o
end

section
variable {P : Program} {w : World} {H H' : Hp} {h h' : Heap} {a : Addr} {o : HO}
theorem ObjOk.lt (x : ObjOk P w H h a o) : a < h.objs.size := by
  cases o with
  | lst xs => obtain ⟨_, _, _, _, e⟩ := x; exact Heap.lt_size e
  | tup xs => obtain ⟨_, _, _, p⟩ := x; exact p.lt
  | dK kvs => obtain ⟨_, _, _, _, o, _, _, e, _⟩ := x; exact Heap.lt_size e
  | dT kvs => obtain ⟨_, _, _, _, o, _, _, e, _⟩ := x; exact Heap.lt_size e
  | set S n => obtain ⟨o, _, _, _, e, _⟩ := x; exact Heap.lt_size e
  | ins C dx fs => obtain ⟨_, _, _, e, _⟩ := x; exact Heap.lt_size e
  | own y => obtain ⟨_, e⟩ := x; exact Heap.lt_size e
  | xd fs => obtain ⟨_, ⟨_, _, _, e, _⟩, _⟩ := x; exact Heap.lt_size e
  | rng lo hi => obtain ⟨_, _, _, e⟩ := x; exact Heap.lt_size e
  | frz ob u => obtain ⟨e, _⟩ := x; exact Heap.lt_size e
  | tbl ps => exact Heap.lt_size (show h.get? a = some _ from x)
  | met f y => exact Heap.lt_size (show h.get? a = some _ from x)
  | ext φ => obtain ⟨_, ⟨_, e⟩, _⟩ := x; exact Heap.lt_size e
theorem Paired.mapP {α β : Type} {F G : α → β → Prop} : ∀ {l₁ : List α} {l₂ : List β}, Paired F l₁ l₂ → (∀ a b, F a b → G a b) → Paired G l₁ l₂
  | _, _, .nil, _ => .nil
  | _, _, .cons r t, f => .cons (f _ _ r) (Paired.mapP t f)
/-- what an object's description leans on: its own object, its own dict, the tuples -/
theorem ObjOk.stay (x : ObjOk P w H h a o) (k : ∀ b u, (b = a ∨ H b = some (.own a)) → h.get? b = some u → h'.get? b = some u)
    (ho : ∀ b, H b = some (.own a) → H' b = some (.own a)) (ht : ∀ b xs, H b = some (.tup xs) → H' b = some (.tup xs)) : ObjOk P w H' h' a o := by
  induction o with
  | lst xs => obtain ⟨z, its, n, r, e⟩ := x; exact ⟨z, its, n, r, k _ _ (.inl rfl) e⟩
  | tup xs => obtain ⟨z, its, r, ob, e, c⟩ := x; exact ⟨z, its, r, ob, k _ _ (.inl rfl) e, c⟩
  | dK kvs => obtain ⟨z, y, vs, r, ob, es, ep, e, c⟩ := x; exact ⟨z, y, vs, r, ob, es, ep, k _ _ (.inl rfl) e, c⟩
  | dT kvs =>
    obtain ⟨z, y, xs, r, ob, es, ep, e, c⟩ := x
    exact ⟨z, y, xs, Paired.mapP r fun p q z => ⟨z.1, ht _ _ z.2.1, z.2.2⟩, ob, es, ep, k _ _ (.inl rfl) e, c⟩
  | set S n => obtain ⟨ob, es, ep, t, e, c⟩ := x; exact ⟨ob, es, ep, t, k _ _ (.inl rfl) e, c⟩
  | ins C dx fs =>
    obtain ⟨d, z, ne, e, mA, ⟨od, es, ep, e2, c⟩, r⟩ := x
    exact ⟨ho _ d, z, ne, k _ _ (.inl rfl) e, mA, ⟨od, es, ep, k _ _ (.inr d) e2, c⟩, r⟩
  | own y => obtain ⟨ob, e⟩ := x; exact ⟨ob, k _ _ (.inl rfl) e⟩
  | xd fs => obtain ⟨mA, ⟨od, es, ep, e, c⟩, r⟩ := x; exact ⟨mA, ⟨od, es, ep, k _ _ (.inl rfl) e, c⟩, r⟩
  | rng lo hi => obtain ⟨t, u, v, e⟩ := x; exact ⟨t, u, v, k _ _ (.inl rfl) e⟩
  | frz ob u ih => obtain ⟨e, q⟩ := x; exact ⟨k _ _ (.inl rfl) e, ih q⟩
  | tbl ps =>
    have e : h.get? a = some { cls := .none, data := .fields ps } := x
    show h'.get? a = some { cls := .none, data := .fields ps }
    exact k a _ (.inl rfl) e
  | met f y =>
    have e : h.get? a = some (PySem.W.methodObj (.ref f) (.ref y)) := x
    show h'.get? a = some (PySem.W.methodObj (.ref f) (.ref y))
    exact k a _ (.inl rfl) e
  | ext φ => obtain ⟨p, ⟨o, e⟩, st⟩ := x; exact ⟨st _ _ p fun o q => k _ _ (.inl rfl) q, ⟨o, k _ _ (.inl rfl) e⟩, st⟩
theorem HOk.lt (x : HOk P w H h) (e : H a = some o) : a < h.objs.size := (x a o e).lt
theorem HOk.fresh (x : HOk P w H h) (e : h.objs.size ≤ a) : H a = none := by
  cases q : H a with
  | none => rfl
  | some u => exact absurd (Nat.lt_of_lt_of_le (x.lt q) e) (Nat.lt_irrefl _)
/-- every object of the heap is kept -/
theorem HOk.kept (x : HOk P w H h) (k : ∀ b u, h.get? b = some u → h'.get? b = some u) : HOk P w H h' := fun a o e =>
  (x a o e).stay (fun b u _ q => k b u q) (fun _ q => q) fun _ _ q => q
/-- a new object is laid and tracked -/
theorem HOk.laid (x : HOk P w H h) (k : ∀ b u, h.get? b = some u → h'.get? b = some u) (hp : h.objs.size ≤ a) (new : ObjOk P w (upd H a o) h' a o) : HOk P w (upd H a o) h' := fun b u e => by
  have hn := x.fresh hp
  by_cases hb : b = a
  · subst hb; rw [upd_same] at e; cases e; exact new
  · rw [upd_ne hb] at e
    exact (x b u e).stay (fun c v _ q => k c v q) (fun c q => by rw [upd_ne (ne_of_none q hn)]; exact q) fun c xs q => by rw [upd_ne (ne_of_none q hn)]; exact q
end

/-- what may be read as u: it is u, or a known u -/
def Rd (H : Hp) (a : Addr) (u : HO) : Prop := H a = some u ∨ ∃ o, H a = some (.frz o u)
theorem Rd.ok {P : Program} {w : World} {H : Hp} {h : Heap} {a : Addr} {u : HO} (r : Rd H a u) (x : HOk P w H h) : ObjOk P w H h a u := by
  rcases r with r | ⟨o, r⟩
  · exact x a u r
  · obtain ⟨_, q⟩ := x a _ r
    exact q
/-- what may be written -/
def Mut : Option HO → Prop
  | some (.lst _) => True
  | some (.dK _) => True
  | some (.dT _) => True
  | some (.set _ _) => True
  | some (.ins _ _ _) => True
  | some (.ext _) => True
  | _ => False
section
variable {P : Program} {w : World} {H : Hp} {h h' : Heap} {x e : Addr} {o' : HO}
/-- the object at e is changed: x itself, or the dict of the instance x -/
theorem HOk.write (ok : HOk P w H h) (mu : Mut (H x)) (he : e = x ∨ H e = some (.own x)) (k : ∀ b u, b ≠ e → h.get? b = some u → h'.get? b = some u) (heo : ∃ u, h'.get? e = some u)
    (new : ObjOk P w (upd H x o') h' x o') : HOk P w (upd H x o') h' := fun b u q => by
  have nown : ∀ c y, H c = some (.own y) → c ≠ x := fun c y r z => by subst z; rw [r] at mu; exact mu
  have ntup : ∀ c xs, H c = some (.tup xs) → c ≠ x := fun c xs r z => by subst z; rw [r] at mu; exact mu
  by_cases hb : b = x
  · subst hb; rw [upd_same] at q; cases q; exact new
  · rw [upd_ne hb] at q
    by_cases hbe : b = e
    · have q' : H b = some (.own x) := by
        rcases he with z | z
        · exact absurd (hbe.trans z) hb
        · rw [hbe]; exact z
      rw [q] at q'; cases q'
      obtain ⟨v, hv⟩ := heo
      exact ⟨v, by rw [hbe]; exact hv⟩
    · refine (ok b u q).stay (fun c v hc r => k c v ?_ r) (fun c r => by rw [upd_ne (nown c b r)]; exact r) fun c xs r => by rw [upd_ne (ntup c xs r)]; exact r
      rcases hc with rfl | hc
      · exact hbe
      · rintro rfl
        rcases he with z | z
        · exact nown c b hc z
        · rw [hc] at z; cases z; exact hb rfl
end

/-! ### kept unless tracked; of the frames at fs (the callers') the slots may change (an exception that passes writes there); of the records at ex (iterators) nothing is said -/
structure Un (fs ex : List Addr) (H H' : Hp) (h h' : Heap) : Prop where
  keep : ∀ b o, h.get? b = some o → H b = none → b ∉ fs → b ∉ ex → h'.get? b = some o
  slot : ∀ b o, h.get? b = some o → H b = none → b ∈ fs → b ∉ ex → ∃ sl, h'.get? b = some { o with slots := sl }
  free : ∀ b o, h.get? b = some o → H b = none → b ∉ ex → H' b = none
  there : ∀ b o, h.get? b = some o → b ∉ ex → ∃ o', h'.get? b = some o'
  tups : ∀ b xs, H b = some (.tup xs) → H' b = some (.tup xs)
  frzs : ∀ b o u, H b = some (.frz o u) → H' b = some (.frz o u)
  tbls : ∀ b ps, H b = some (.tbl ps) → ∃ more, H' b = some (.tbl (ps ++ more))
section
variable {fs fs' ex ex' : List Addr} {H H1 H2 : Hp} {h h1 h2 h' : Heap} {a x e : Addr} {o : HO}
theorem Un.any (u : Un fs ex H H1 h h1) {b : Addr} {ob : Obj} (q : h.get? b = some ob) (n : H b = none) (hx : b ∉ ex) : ∃ sl, h1.get? b = some { ob with slots := sl } := by
  by_cases hb : b ∈ fs
  · exact u.slot b ob q n hb hx
  · exact ⟨ob.slots, u.keep b ob q n hb hx⟩
theorem Un.kept (k : ∀ b u, h.get? b = some u → h'.get? b = some u) : Un fs ex H H h h' :=
  ⟨fun b ob q _ _ _ => k b ob q, fun b ob q _ _ _ => ⟨ob.slots, k b ob q⟩, fun _ _ _ n _ => n, fun b ob q _ => ⟨ob, k b ob q⟩, fun _ _ q => q, fun _ _ _ q => q, fun _ ps q => ⟨#[], by rw [q]; simp⟩⟩
theorem Un.refl : Un fs ex H H h h := Un.kept fun _ _ q => q
theorem Un.laid (k : ∀ b u, h.get? b = some u → h'.get? b = some u) (hp : h.objs.size ≤ a) (hn : H a = none) : Un fs ex H (upd H a o) h h' where
  keep := fun b u q _ _ _ => k b u q
  slot := fun b u q _ _ _ => ⟨u.slots, k b u q⟩
  free := fun b u q n _ => by rw [upd_ne (Nat.ne_of_lt (Nat.lt_of_lt_of_le (Heap.lt_size q) hp))]; exact n
  there := fun b u q _ => ⟨u, k b u q⟩
  tups := fun b xs q => by rw [upd_ne (ne_of_none q hn)]; exact q
  frzs := fun b u xs q => by rw [upd_ne (ne_of_none q hn)]; exact q
  tbls := fun b ps q => ⟨#[], by rw [upd_ne (ne_of_none q hn), q]; simp⟩
theorem Un.write (mu : Mut (H x)) (he : e = x ∨ H e = some (.own x)) (k : ∀ b u, b ≠ e → h.get? b = some u → h'.get? b = some u) (heo : ∃ u, h'.get? e = some u) : Un fs ex H (upd H x o) h h' := by
  have hx : ∀ b, H b = none → b ≠ x := fun b n z => by subst z; rw [n] at mu; exact mu
  have hb : ∀ b, H b = none → b ≠ e := fun b n z => by
    subst z
    rcases he with r | r
    · exact hx b n r
    · rw [n] at r; cases r
  have hm : ∀ b u, H b = some u → ¬ Mut (some u) → b ≠ x := fun b u q nm z => by subst z; rw [q] at mu; exact nm mu
  refine ⟨fun b u q n _ _ => k b u (hb b n) q, fun b u q n _ _ => ⟨u.slots, k b u (hb b n) q⟩, fun b u q n _ => by rw [upd_ne (hx b n)]; exact n, fun b u q _ => ?_,
    fun b xs q => by rw [upd_ne (hm b _ q fun z => z)]; exact q, fun b u xs q => by rw [upd_ne (hm b _ q fun z => z)]; exact q, fun b ps q => ⟨#[], by rw [upd_ne (hm b _ q fun z => z), q]; simp⟩⟩
  by_cases hbe : b = e
  · subst hbe; exact heo
  · exact ⟨u, k b u hbe q⟩
end

/-! ### the heap without what is tracked -/
def trk (h : Heap) (H : Hp) : List Addr := (List.range h.objs.size).filter fun a => (H a).isSome
def hidT (h : Heap) (H : Hp) : Heap := PySem.W.hideAll h (trk h H)
theorem hidT_size (h : Heap) (H : Hp) : (hidT h H).objs.size = h.objs.size := PySem.W.hideAll_size _ _
theorem hidT_get {h : Heap} {H : Hp} {b : Addr} {o : Obj} (e : h.get? b = some o) (n : H b = none) : (hidT h H).get? b = some o :=
  PySem.W.hideAll_get _ e fun hm => by
    have q : (H b).isSome = true := (List.mem_filter.mp hm).2
    rw [n] at q; simp at q
theorem of_hidT {h : Heap} {H : Hp} {b : Addr} {o : Obj} (e : (hidT h H).get? b = some o) : h.get? b = some o ∧ H b = none := by
  have e' : h.get? b = some o := PySem.W.of_hideAll (trk h H) e
  refine ⟨e', ?_⟩
  cases q : H b with
  | none => rfl
  | some x =>
    have hm : b ∈ trk h H := List.mem_filter.mpr ⟨List.mem_range.mpr (Heap.lt_size e'), by simp [q]⟩
    have z : (hidT h H).get? b = none := PySem.W.hideAll_none (trk h H) hm
    rw [z] at e; cases e

/-! ### OpenK's ledger, filled with every new object but one -/
def allNews (g h : Heap) (L : Addr) : List (Addr × Obj) := (List.range h.objs.size).filterMap fun a => if a = L ∨ (g.get? a).isSome = true then none else (h.get? a).map fun o => (a, o)
def rest (g h : Heap) (L d : Addr) : List (Addr × Obj) := (allNews g h L).filter fun p => decide (p.1 ≠ d)
end L2

namespace L2
open PySem PySem.Spec PyProof.Rows

/-- the module's facts, over the base: the heap at the law's entry without what is tracked there -/
structure Mod (K : PySem.W.Frag) (mg : Str → Option Value) (base : Heap) : Prop where
  kin : K.In base
  glob : base.Ns mainGlobals mg
  blt : ∃ mb, base.Ns builtinsNs mb ∧ ∀ x : Str, x ≠ "__name__" → mb x = bootBuiltins x
  nolimit : base.NoLimit

/-- the context: a def's body (or a comprehension's block) running. base: fixed through the whole law; s₀, H₀: the entry; outer: the frames whose slots others may change (a def's callers); stack: all frames that run;
   ex: iterators that were made ahead of the entry and are walked here (a comprehension's); fn: the names whose cells were made at the entry (a def: all; a comprehension's block: its own); calm: not within an except suite; pn: pins that every state bears; xe: what is wanted of an exception that leaves the code -/
structure Cx where
  prog : Program
  w : World
  K : PySem.W.Frag
  mg : Str → Option Value
  base : Heap
  A : Around
  N : List Str
  s₀ : Shared
  H₀ : Hp
  env : Env
  outer : List Env
  stack : List Env
  ex : List Addr
  fn : Str → Bool
  calm : Bool
  pn : List (Addr × Obj)
  xe : Value → Shared → Prop
/-- the callers' frames -/
def frs (l : List Env) : List Addr := l.filterMap (·.frame)
abbrev Cx.fs (X : Cx) : List Addr := frs X.outer

def Vis (sc : Scope) (x : Str) : Prop := sc.names.lookup x = some .local ∨ sc.names.lookup x = some .cell ∨ sc.names.lookup x = some .free
def Loc (sc : Scope) (x : Str) : Prop := sc.names.lookup x = some .local ∨ sc.names.lookup x = some .cell
def Look (env : Env) (h : Heap) (m : Str → Option Value) (x : Str) (u : Value) : Prop :=
  (env.kindOf x = some .local ∧ m x = some u) ∨ ((env.kindOf x = some .cell ∨ env.kindOf x = some .free) ∧ ∃ c, env.cells.lookup x = some c ∧ h.IsCell c (some u))

structure Cx.Ok (X : Cx) : Prop where
  mod : Mod X.K X.mg X.base
  kind : X.env.scope.kind = .function
  glob : X.env.globals = mainGlobals
  blt : X.env.builtins = builtinsNs
  above : X.s₀.heap.objs.size ≤ X.env.locals
  inj : ∀ x y c, X.env.cells.lookup x = some c → X.env.cells.lookup y = some c → x = y
  has : ∀ x, (X.env.kindOf x = some .cell ∨ X.env.kindOf x = some .free) → ∃ c, X.env.cells.lookup x = some c
  cab : ∀ x c, X.fn x = true → X.env.cells.lookup x = some c → X.s₀.heap.objs.size ≤ c
  hd : X.calm = true → X.A.handled = none
  frames : X.A.frames = some X.stack
  stk : X.stack = X.outer ∨ (X.stack = X.env :: X.outer ∧ X.env.frame = some X.env.locals)
  exf : ∀ b ∈ X.ex, b ≠ X.env.locals ∧ ∀ x c, X.env.cells.lookup x = some c → c ≠ b
  bs : ∀ b o, X.base.get? b = some o → X.s₀.heap.get? b = some o ∧ X.H₀ b = none
  bsz : X.base.objs.size ≤ X.s₀.heap.objs.size
  noex : ∀ b o, X.base.get? b = some o → b ∉ X.ex
  exfs : ∀ b ∈ X.ex, b ∉ X.fs
  funs : X.s₀.heap.FunFrames X.base X.outer
  frf : ∀ b ∈ X.fs, X.H₀ b = none

structure Inv (X : Cx) (pins : List (Addr × Obj)) (σ : List (Option V)) (H : Hp) (s : Shared) : Prop where
  ok : X.Ok
  os : s.os = X.s₀.os
  bare : AllBare s.gens
  base : Un X.fs X.ex X.H₀ H X.s₀.heap s.heap
  loc : ∃ m, s.heap.Ns X.env.locals m ∧ ∀ (i : Nat) (x : Str) (v : V), X.N[i]? = some x → σ[i]? = some (some v) → Vis X.env.scope x → ∃ u, RelV v u ∧ Look X.env s.heap m x u
  cell : ∀ x c, X.env.cells.lookup x = some c → ∃ v, s.heap.IsCell c v
  free : H X.env.locals = none
  freeC : ∀ x c, X.env.cells.lookup x = some c → H c = none
  pin : ∀ p ∈ X.pn ++ pins, s.heap.get? p.1 = some p.2 ∧ H p.1 = none ∧ p.1 ≠ X.env.locals ∧ p.1 ∉ X.fs ∧ ∀ v, p.2.data ≠ .cell v
  hok : HOk X.prog X.w H s.heap
  len : σ.length = X.N.length

section
variable {X : Cx} {pins : List (Addr × Obj)} {σ : List (Option V)} {H H' : Hp} {s : Shared} {h' : Heap}

theorem Cx.Ok.nofr (ok : X.Ok) {b : Addr} {o : Obj} (e : X.base.get? b = some o) : b ∉ X.fs := fun hb => by
  have := (ok.funs.mem hb).1
  rw [e] at this; cases this
theorem Inv.bs (I : Inv X pins σ H s) : ∀ b o, X.base.get? b = some o → s.heap.get? b = some o ∧ H b = none := fun b o e =>
  ⟨I.base.keep b o (I.ok.bs b o e).1 (I.ok.bs b o e).2 (I.ok.nofr e) (I.ok.noex b o e), I.base.free b o (I.ok.bs b o e).1 (I.ok.bs b o e).2 (I.ok.noex b o e)⟩
theorem Inv.bk (I : Inv X pins σ H s) : ∀ b o, X.base.get? b = some o → s.heap.get? b = some o := fun b o e => (I.bs b o e).1
theorem Inv.mod (I : Inv X pins σ H s) : Mod X.K X.mg X.base := I.ok.mod
theorem Inv.kIn (I : Inv X pins σ H s) : X.K.In s.heap := I.ok.mod.kin.keeps I.bk
theorem Inv.lt (I : Inv X pins σ H s) : X.env.locals < s.heap.objs.size := let ⟨_, hn, _⟩ := I.loc; hn.lt
theorem Inv.sz (I : Inv X pins σ H s) : X.s₀.heap.objs.size ≤ s.heap.objs.size := Nat.le_trans I.ok.above (Nat.le_of_lt I.lt)
theorem Inv.nofs (I : Inv X pins σ H s) {a : Addr} (h : s.heap.objs.size ≤ a) : a ∉ X.fs := fun hb => by
  obtain ⟨_, o, ho, _⟩ := I.ok.funs.mem hb
  exact absurd (Nat.lt_of_lt_of_le (Heap.lt_size ho) (Nat.le_trans I.sz h)) (Nat.lt_irrefl _)
theorem Inv.cne (I : Inv X pins σ H s) : ∀ x c, X.env.cells.lookup x = some c → c ≠ X.env.locals := fun x c e z => by
  obtain ⟨v, o, ho, hd⟩ := I.cell x c e
  obtain ⟨m, ⟨o', es, ep, ho', hd', _⟩, _⟩ := I.loc
  rw [z, ho'] at ho; cases ho; rw [hd'] at hd; cases hd
theorem Inv.funs (I : Inv X pins σ H s) : s.heap.FunFrames X.base X.outer := by
  have all : ∀ (l : List Env), (∀ b ∈ frs l, b ∈ X.fs) → X.s₀.heap.FunFrames X.base l → s.heap.FunFrames X.base l := by
    intro l
    induction l with
    | nil => intro _ _; trivial
    | cons env r ih =>
      intro hs hl
      obtain ⟨hk, ⟨L, o, hf, hn, ho, hd⟩, hr⟩ := hl
      have hL : L ∈ X.fs := hs L (by unfold frs; rw [List.filterMap_cons, hf]; exact List.mem_cons_self)
      obtain ⟨sl, e⟩ := I.base.slot L o ho (I.ok.frf L hL) hL fun z => I.ok.exfs L z hL
      exact ⟨hk, ⟨L, _, hf, hn, e, hd⟩, ih (fun b hb => hs b (by unfold frs; rw [List.filterMap_cons, hf]; exact List.mem_cons_of_mem _ hb)) hr⟩
  exact all X.outer (fun _ hb => hb) I.ok.funs

/-- the frames that run, for a call -/
theorem Inv.stack (I : Inv X pins σ H s) : s.heap.FunFrames X.base X.stack := by
  rcases I.ok.stk with e | ⟨e, hf⟩
  · rw [e]; exact I.funs
  · rw [e]
    obtain ⟨m, hn, _⟩ := I.loc
    refine .cons (by rw [I.ok.kind]; decide) hf hn ?_ I.funs
    exact Heap.get?_none_of_le (Nat.le_trans I.ok.bsz I.ok.above)
theorem Inv.stkSub (I : Inv X pins σ H s) : ∀ b ∈ frs X.stack, b ∈ X.env.locals :: X.fs := fun b hb => by
  rcases I.ok.stk with e | ⟨e, hf⟩
  · rw [e] at hb; exact List.mem_cons_of_mem _ hb
  · rw [e] at hb
    unfold frs at hb
    rw [List.filterMap_cons, hf] at hb
    exact hb
theorem Inv.stkFree (I : Inv X pins σ H s) : ∀ b ∈ frs X.stack, H b = none := fun b hb => by
  rcases List.mem_cons.mp (I.stkSub b hb) with e | hb
  · rw [e]; exact I.free
  · obtain ⟨_, o, ho, _⟩ := I.ok.funs.mem hb
    exact I.base.free b o ho (I.ok.frf b hb) fun z => I.ok.exfs b z hb

/-- THE STEP: the untracked objects but the frame and the records at ch are kept (the callers' frames up to slots), the frame's map is kept, the new abstract heap is held -/
theorem Inv.step {g' : Array GenState} {t' : Nat} {d' : Drawn} {ch : List Addr} (I : Inv X pins σ H s)
    (hch : ∀ b ∈ ch, (b ∈ X.ex ∨ X.s₀.heap.objs.size ≤ b) ∧ b ≠ X.env.locals ∧ (∀ x c, X.env.cells.lookup x = some c → c ≠ b) ∧ ∀ p ∈ X.pn ++ pins, p.1 ≠ b)
    (keep : ∀ b o, b ≠ X.env.locals → b ∉ X.fs → b ∉ ch → s.heap.get? b = some o → H b = none → h'.get? b = some o)
    (slot : ∀ b o, b ≠ X.env.locals → b ∈ X.fs → b ∉ ch → s.heap.get? b = some o → H b = none → ∃ sl, h'.get? b = some { o with slots := sl }) (free : ∀ b o, b ∉ ch → s.heap.get? b = some o → H b = none → H' b = none)
    (there : ∀ b o, b ∉ ch → s.heap.get? b = some o → ∃ o', h'.get? b = some o')
    (tups : ∀ b xs, H b = some (.tup xs) → H' b = some (.tup xs)) (frzs : ∀ b o u, H b = some (.frz o u) → H' b = some (.frz o u)) (tbls : ∀ b ps, H b = some (.tbl ps) → ∃ more, H' b = some (.tbl (ps ++ more)))
    (ns : ∀ m, s.heap.Ns X.env.locals m → h'.Ns X.env.locals m) (hok : HOk X.prog X.w H' h') (hg : AllBare g') :
    Inv X pins σ H' { s with heap := h', gens := g', drawn := d', toks := t' } := by
  have neL : ∀ b o, X.s₀.heap.get? b = some o → b ≠ X.env.locals := fun b o e => Nat.ne_of_lt (Nat.lt_of_lt_of_le (Heap.lt_size e) I.ok.above)
  have neC : ∀ b o, X.s₀.heap.get? b = some o → b ∉ X.ex → b ∉ ch := fun b o e hx hb => by
    rcases (hch b hb).1 with z | z
    · exact hx z
    · exact absurd (Nat.lt_of_lt_of_le (Heap.lt_size e) z) (Nat.lt_irrefl _)
  have cellK : ∀ x c, X.env.cells.lookup x = some c → ∀ v, s.heap.IsCell c v → h'.IsCell c v := fun x c e v ⟨o, ho, hd⟩ => by
    have nch : c ∉ ch := fun z => (hch c z).2.2.1 x c e rfl
    by_cases hc : c ∈ X.fs
    · obtain ⟨sl, q⟩ := slot c o (I.cne x c e) hc nch ho (I.freeC x c e)
      exact ⟨_, q, hd⟩
    · exact ⟨o, keep c o (I.cne x c e) hc nch ho (I.freeC x c e), hd⟩
  refine ⟨I.ok, I.os, hg, ⟨fun b o e n hb hx => ?_, fun b o e n hb hx => ?_, fun b o e n hx => ?_, fun b o e hx => ?_, fun b xs e => tups b xs (I.base.tups b xs e), fun b o xs e => frzs b o xs (I.base.frzs b o xs e), fun b ps e => ?_⟩, ?_, fun x c e => ?_, ?_, fun x c e => ?_, fun p hp => ?_, hok, I.len⟩
  · exact keep b o (neL b o e) hb (neC b o e hx) (I.base.keep b o e n hb hx) (I.base.free b o e n hx)
  · obtain ⟨sl, e1⟩ := I.base.slot b o e n hb hx
    obtain ⟨sl', e2⟩ := slot b _ (neL b o e) hb (neC b o e hx) e1 (I.base.free b o e n hx)
    exact ⟨sl', e2⟩
  · obtain ⟨o', e1⟩ := I.base.there b o e hx
    exact free b o' (neC b o e hx) e1 (I.base.free b o e n hx)
  · obtain ⟨o', e1⟩ := I.base.there b o e hx
    exact there b o' (neC b o e hx) e1
  · obtain ⟨m1, e1⟩ := I.base.tbls b ps e
    obtain ⟨m2, e2⟩ := tbls b _ e1
    exact ⟨m1 ++ m2, by rw [e2, Array.append_assoc]⟩
  · obtain ⟨m, hn, hl⟩ := I.loc
    refine ⟨m, ns m hn, fun i x v e1 e2 e3 => ?_⟩
    obtain ⟨u, r, l⟩ := hl i x v e1 e2 e3
    refine ⟨u, r, ?_⟩
    rcases l with l | ⟨k, c, e, z⟩
    · exact .inl l
    · exact .inr ⟨k, c, e, cellK x c e _ z⟩
  · obtain ⟨v, z⟩ := I.cell x c e
    exact ⟨v, cellK x c e v z⟩
  · obtain ⟨m, ⟨o, _, _, ho, _⟩, _⟩ := I.loc
    exact free _ o (fun z => (hch _ z).2.1 rfl) ho I.free
  · obtain ⟨v, o, ho, hd⟩ := I.cell x c e
    exact free c o (fun z => (hch c z).2.2.1 x c e rfl) ho (I.freeC x c e)
  · obtain ⟨e, n, ne, nf, d⟩ := I.pin p hp
    have nch : p.1 ∉ ch := fun z => (hch p.1 z).2.2.2 p hp rfl
    exact ⟨keep p.1 p.2 ne nf nch e n, free p.1 p.2 nch e n, ne, nf, d⟩
/-- .. where the frame's own object is kept too -/
theorem Inv.un {t' : Nat} (I : Inv X pins σ H s) (u : Un X.fs [] H H' s.heap h') (hok : HOk X.prog X.w H' h') : Inv X pins σ H' { s with heap := h', toks := t' } := by
  obtain ⟨m, ⟨o, es, ep, ho, r⟩, _⟩ := id I.loc
  obtain ⟨sl, hL⟩ := u.any ho I.free (by simp)
  exact I.step (g' := s.gens) (d' := s.drawn) (ch := []) (fun _ z => nomatch z) (fun b o _ hb _ e n => u.keep b o e n hb (by simp)) (fun b o _ hb _ e n => u.slot b o e n hb (by simp)) (fun b o _ e n => u.free b o e n (by simp)) (fun b o _ e => u.there b o e (by simp)) u.tups u.frzs u.tbls (fun m' hm => by
    obtain ⟨o', es', ep', ho', r'⟩ := hm
    rw [ho] at ho'; cases ho'
    exact ⟨_, es', ep', hL, r'⟩) hok I.bare
/-- behind a call (or a comprehension's block): the slots of this frame may have changed too, the records at ch may have turned -/
theorem Inv.call {g' : Array GenState} {t' : Nat} {d' : Drawn} {ch : List Addr} (I : Inv X pins σ H s) (u : Un (frs X.stack) ch H H' s.heap h') (hok : HOk X.prog X.w H' h') (hg : AllBare g')
    (hch : ∀ b ∈ ch, (b ∈ X.ex ∨ X.s₀.heap.objs.size ≤ b) ∧ b ≠ X.env.locals ∧ (∀ x c, X.env.cells.lookup x = some c → c ≠ b) ∧ ∀ p ∈ X.pn ++ pins, p.1 ≠ b) :
    Inv X pins σ H' { s with heap := h', gens := g', drawn := d', toks := t' } := by
  obtain ⟨m, ⟨o, es, ep, ho, r⟩, _⟩ := id I.loc
  obtain ⟨sl, hL⟩ := u.any ho I.free fun z => (hch _ z).2.1 rfl
  exact I.step (ch := ch) hch (fun b o hL hb hc e n => u.keep b o e n (fun z => (List.mem_cons.mp (I.stkSub b z)).elim hL hb) hc) (fun b o _ _ hc e n => u.any e n hc) (fun b o hc e n => u.free b o e n hc) (fun b o hc e => u.there b o e hc) u.tups u.frzs u.tbls (fun m' hm => by
    obtain ⟨o', es', ep', ho', r'⟩ := hm
    rw [ho] at ho'; cases ho'
    exact ⟨_, es', ep', hL, r'⟩) hok hg
/-- an untracked record of ours (an iterator) has turned -/
theorem Inv.turned {t' : Nat} {it : Addr} (I : Inv X pins σ H s) (k : ∀ b o, b ≠ it → s.heap.get? b = some o → h'.get? b = some o) (hn : H it = none) (hL : it ≠ X.env.locals)
    (h1 : it ∈ X.ex ∨ X.s₀.heap.objs.size ≤ it) (h2 : ∀ x c, X.env.cells.lookup x = some c → c ≠ it) (h3 : ∀ p ∈ X.pn ++ pins, p.1 ≠ it) : Inv X pins σ H { s with heap := h', toks := t' } := by
  have nit : ∀ b u, H b = some u → b ≠ it := fun b u e z => by rw [z, hn] at e; cases e
  refine I.step (g' := s.gens) (d' := s.drawn) (ch := [it]) (fun b hb => ?_) (fun b o _ _ hc e _ => k b o (fun z => hc (by simp [z])) e) (fun b o _ _ hc e _ => ⟨o.slots, k b o (fun z => hc (by simp [z])) e⟩) (fun _ _ _ _ n => n)
    (fun b o hc e => ⟨o, k b o (fun z => hc (by simp [z])) e⟩) (fun _ _ e => e) (fun _ _ _ e => e) (fun b ps e => ⟨#[], by rw [e]; simp⟩) (fun m hm => ?_) (fun b u e => ?_) I.bare
  · have e : b = it := by simpa using hb
    subst e
    exact ⟨h1, hL, h2, h3⟩
  · obtain ⟨o, es, ep, ho, r⟩ := hm
    exact ⟨o, es, ep, k _ o (Ne.symm hL) ho, r⟩
  · refine (I.hok b u e).stay (fun c v hc q => k c v ?_ q) (fun _ q => q) fun _ _ q => q
    rcases hc with z | z
    · rw [z]; exact nit b u e
    · exact nit c _ z
theorem Inv.tok (I : Inv X pins σ H s) (t : Nat) : Inv X pins σ H { s with toks := t } := I.un (h' := s.heap) (t' := t) Un.refl I.hok
/-- all objects kept -/
theorem Inv.kept {t' : Nat} (I : Inv X pins σ H s) (k : ∀ b u, s.heap.get? b = some u → h'.get? b = some u) : Inv X pins σ H { s with heap := h', toks := t' } := I.un (Un.kept k) (I.hok.kept k)
/-- a new object laid and tracked -/
theorem Inv.laid {a : Addr} {o : HO} {t' : Nat} (I : Inv X pins σ H s) (k : ∀ b u, s.heap.get? b = some u → h'.get? b = some u) (hp : s.heap.objs.size ≤ a) (new : ObjOk X.prog X.w (upd H a o) h' a o) :
    Inv X pins σ (upd H a o) { s with heap := h', toks := t' } := I.un (Un.laid k hp (I.hok.fresh hp)) (I.hok.laid k hp new)
/-- an object written -/
theorem Inv.write {x e : Addr} {o : HO} {t' : Nat} (I : Inv X pins σ H s) (mu : Mut (H x)) (he : e = x ∨ H e = some (.own x)) (k : ∀ b u, b ≠ e → s.heap.get? b = some u → h'.get? b = some u) (heo : ∃ u, h'.get? e = some u)
    (new : ObjOk X.prog X.w (upd H x o) h' x o) : Inv X pins σ (upd H x o) { s with heap := h', toks := t' } := I.un (Un.write mu he k heo) (I.hok.write mu he k heo new)
/-- forgetting slots, pins -/
theorem Inv.weak {σ' : List (Option V)} (I : Inv X pins σ H s) (hl : σ'.length = σ.length) (w : ∀ (i : Nat) v, σ'[i]? = some (some v) → σ[i]? = some (some v)) : Inv X pins σ' H s :=
  ⟨I.ok, I.os, I.bare, I.base, let ⟨m, hn, hl'⟩ := I.loc; ⟨m, hn, fun i x v e1 e2 e3 => hl' i x v e1 (w i v e2) e3⟩, I.cell, I.free, I.freeC, I.pin, I.hok, hl.trans I.len⟩
theorem Inv.pins_of {pins' : List (Addr × Obj)} (I : Inv X pins σ H s) (h : ∀ p ∈ pins', s.heap.get? p.1 = some p.2 ∧ H p.1 = none ∧ p.1 ≠ X.env.locals ∧ p.1 ∉ X.fs ∧ ∀ v, p.2.data ≠ .cell v) : Inv X pins' σ H s :=
  ⟨I.ok, I.os, I.bare, I.base, I.loc, I.cell, I.free, I.freeC, fun p hp => (List.mem_append.mp hp).elim (fun z => I.pin p (List.mem_append_left _ z)) (h p), I.hok, I.len⟩

theorem nodup_ix {N : List Str} (hN : N.Nodup) {i j : Nat} {x : Str} (a : N[i]? = some x) (b : N[j]? = some x) : i = j := by
  obtain ⟨h1, e1⟩ := List.getElem?_eq_some_iff.mp a
  obtain ⟨h2, e2⟩ := List.getElem?_eq_some_iff.mp b
  exact (List.getElem_inj hN).mp (e1.trans e2.symm)

/-- a name is stored; what changed -/
theorem store_ok2 {M : Model} {A : Around} {E : Value → Shared → Prop} {i : Nat} {x : Str} {v : V} {u : Value} {Q : Unit → Shared → Prop} (I : Inv X pins σ H s) (hN : X.N.Nodup) (hi : X.N[i]? = some x) (hx : Loc X.env.scope x) (r : RelV v u)
    (h : ∀ s', Inv X pins (σ.set i (some v)) H s' → (∃ a, Heap.SameBut a s.heap s'.heap ∧ (a = X.env.locals ∨ X.env.cells.lookup x = some a)) → Q () s') (hf : X.fn x = true ∨ X.env.scope.names.lookup x = some .local := by first | exact .inl rfl | exact .inr rfl | assumption) : wpAny M A (storeName X.env x u) Q E s := by
  obtain ⟨m, hn, hl⟩ := id I.loc
  have hcls : (X.env.scope.kind == .class || (X.env.scope.kind == .module && X.env.locals != X.env.globals)) = false := by rw [I.ok.kind]; rfl
  have hiσ : i < σ.length := by rw [I.len]; exact (List.getElem?_eq_some_iff.mp hi).1
  have cne := I.cne
  have tracked : ∀ {a : Addr} {h' : Heap}, (∃ o, s.heap.get? a = some o ∧ H a = none) → Heap.SameBut a s.heap h' → HOk X.prog X.w H h' := fun {a h'} ha hs b ob e => by
    obtain ⟨_, _, hfree⟩ := ha
    refine (I.hok b ob e).stay (fun c w' hc q => (hs.2 c ?_).trans q) (fun _ q => q) fun _ _ q => q
    rintro rfl
    rcases hc with rfl | hc
    · rw [hfree] at e; cases e
    · rw [hfree] at hc; cases hc
  rcases hx with hk | hk
  · refine wpAny_storeName_local hk hn (fun h' hn' hs => ?_) hcls
    obtain ⟨oL, _, _, hoL, _⟩ := id hn
    refine h _ ⟨I.ok, I.os, I.bare, ⟨fun b o e n hb hx => ?_, fun b o e n hb hx => ?_, I.base.free, fun b o e hx => ?_, I.base.tups, I.base.frzs, I.base.tbls⟩, ⟨_, hn', fun j y v' e1 e2 e3 => ?_⟩, fun y c e => ?_, I.free, I.freeC, fun p hp => ?_, tracked ⟨oL, hoL, I.free⟩ hs, by simpa using I.len⟩ ⟨_, hs, .inl rfl⟩
    · exact (hs.2 b (Nat.ne_of_lt (Nat.lt_of_lt_of_le (Heap.lt_size e) I.ok.above))).trans (I.base.keep b o e n hb hx)
    · obtain ⟨sl, e1⟩ := I.base.slot b o e n hb hx
      exact ⟨sl, (hs.2 b (Nat.ne_of_lt (Nat.lt_of_lt_of_le (Heap.lt_size e) I.ok.above))).trans e1⟩
    · obtain ⟨o', e1⟩ := I.base.there b o e hx
      exact ⟨o', (hs.2 b (Nat.ne_of_lt (Nat.lt_of_lt_of_le (Heap.lt_size e) I.ok.above))).trans e1⟩
    · by_cases hj : j = i
      · subst hj
        rw [hi] at e1; cases e1
        rw [List.getElem?_set_self hiσ] at e2
        cases e2
        exact ⟨u, r, .inl ⟨hk, by simp⟩⟩
      · rw [List.getElem?_set_ne (Ne.symm hj)] at e2
        obtain ⟨u', r', q⟩ := hl j y v' e1 e2 e3
        refine ⟨u', r', ?_⟩
        rcases q with ⟨k, e⟩ | ⟨k, c, e, z⟩
        · refine .inl ⟨k, ?_⟩
          have : y ≠ x := fun e => hj (nodup_ix hN e1 (e ▸ hi))
          simp [this, e]
        · exact .inr ⟨k, c, e, z.sameBut hs (cne y c e)⟩
    · obtain ⟨w', z⟩ := I.cell y c e
      exact ⟨w', z.sameBut hs (cne y c e)⟩
    · obtain ⟨e, n, ne, nf, d⟩ := I.pin p hp
      exact ⟨(hs.2 p.1 ne).trans e, n, ne, nf, d⟩
  · have hfn : X.fn x = true := by
      rcases hf with z | z
      · exact z
      · rw [z] at hk; cases hk
    obtain ⟨c, hc⟩ := I.ok.has x (.inl hk)
    obtain ⟨w', z⟩ := I.cell x c hc
    refine wpAny_storeName_cell I.ok.kind hk hc z (fun h' hc' hs => ?_)
    obtain ⟨oc, hoc, hocd⟩ := id z
    refine h { s with heap := h' } ⟨I.ok, I.os, I.bare, ⟨fun b o e n hb hx => ?_, fun b o e n hb hx => ?_, I.base.free, fun b o e hx => ?_, I.base.tups, I.base.frzs, I.base.tbls⟩, ⟨m, hn.sameBut hs (Ne.symm (cne x c hc)), fun j y v' e1 e2 e3 => ?_⟩, fun y c' e => ?_, I.free, I.freeC, fun p hp => ?_, tracked ⟨oc, hoc, I.freeC x c hc⟩ hs, by simpa using I.len⟩ ⟨c, hs, .inr hc⟩
    · exact (hs.2 b (Nat.ne_of_lt (Nat.lt_of_lt_of_le (Heap.lt_size e) (I.ok.cab x c hfn hc)))).trans (I.base.keep b o e n hb hx)
    · obtain ⟨sl, e1⟩ := I.base.slot b o e n hb hx
      exact ⟨sl, (hs.2 b (Nat.ne_of_lt (Nat.lt_of_lt_of_le (Heap.lt_size e) (I.ok.cab x c hfn hc)))).trans e1⟩
    · obtain ⟨o', e1⟩ := I.base.there b o e hx
      exact ⟨o', (hs.2 b (Nat.ne_of_lt (Nat.lt_of_lt_of_le (Heap.lt_size e) (I.ok.cab x c hfn hc)))).trans e1⟩
    · by_cases hj : j = i
      · subst hj
        rw [hi] at e1; cases e1
        rw [List.getElem?_set_self hiσ] at e2
        cases e2
        exact ⟨u, r, .inr ⟨.inl hk, c, hc, hc'⟩⟩
      · rw [List.getElem?_set_ne (Ne.symm hj)] at e2
        obtain ⟨u', r', q⟩ := hl j y v' e1 e2 e3
        refine ⟨u', r', ?_⟩
        rcases q with q | ⟨k, c', e, z'⟩
        · exact .inl q
        · refine .inr ⟨k, c', e, z'.sameBut hs ?_⟩
          rintro rfl
          exact hj (nodup_ix hN e1 (I.ok.inj _ _ _ e hc ▸ hi))
    · by_cases hcc : c' = c
      · subst hcc; exact ⟨_, hc'⟩
      · obtain ⟨w2, z2⟩ := I.cell y c' e
        exact ⟨w2, z2.sameBut hs hcc⟩
    · obtain ⟨e, n, ne, nf, d⟩ := I.pin p hp
      refine ⟨(hs.2 p.1 ?_).trans e, n, ne, nf, d⟩
      intro q
      rw [q, hoc] at e
      have q' : oc = p.2 := Option.some.inj e
      exact d w' (by rw [← q']; exact hocd)
theorem store_ok {M : Model} {A : Around} {E : Value → Shared → Prop} {i : Nat} {x : Str} {v : V} {u : Value} {Q : Unit → Shared → Prop} (I : Inv X pins σ H s) (hN : X.N.Nodup) (hi : X.N[i]? = some x) (hx : Loc X.env.scope x) (r : RelV v u)
    (h : ∀ s', Inv X pins (σ.set i (some v)) H s' → Q () s') (hf : X.fn x = true ∨ X.env.scope.names.lookup x = some .local := by first | exact .inl rfl | exact .inr rfl | assumption) : wpAny M A (storeName X.env x u) Q E s :=
  store_ok2 I hN hi hx r (fun s' I' _ => h s' I') hf
/-- behind a call or a block, the state as it is -/
theorem Inv.call' {s' : Shared} {ch : List Addr} (I : Inv X pins σ H s) (ho : s'.os = s.os) (u : Un (frs X.stack) ch H H' s.heap s'.heap) (hok : HOk X.prog X.w H' s'.heap) (hg : AllBare s'.gens)
    (hch : ∀ b ∈ ch, (b ∈ X.ex ∨ X.s₀.heap.objs.size ≤ b) ∧ b ≠ X.env.locals ∧ (∀ x c, X.env.cells.lookup x = some c → c ≠ b) ∧ ∀ p ∈ X.pn ++ pins, p.1 ≠ b) : Inv X pins σ H' s' := by
  obtain ⟨h', g', d', t', o'⟩ := s'
  have e : o' = s.os := ho
  subst e
  exact I.call (g' := g') (t' := t') (d' := d') u hok hg hch
end

/-! ### the judgements -/
/-- an exception: its class, its own dict's address (where it has one), the abstract heap behind it -/
abbrev XK := Value → Option Addr → Hp → Prop
abbrev St := List (Option V)
abbrev VK := V → Hp → Prop
/-- an expression's reading; a test's; an argument list's -/
abbrev TE := St → Hp → VK → Prop
abbrev TT := St → Hp → (Bool → Hp → Prop) → Prop
abbrev TA := St → Hp → (List V → Hp → Prop) → Prop
/-- what is wanted behind a statement -/
structure Ends where
  nx : St → Hp → Prop
  rt : VK
  bk : St → Hp → Prop := fun _ _ => False
  ct : St → Hp → Prop := fun _ _ => False
abbrev TS := Ends → St → Hp → Prop

def EP (X : Cx) (pins : List (Addr × Obj)) (σ : St) (Q : VK) (u : Value) (s' : Shared) : Prop := ∃ v H', Inv X pins σ H' s' ∧ RelV v u ∧ Q v H'
def TP (X : Cx) (pins : List (Addr × Obj)) (σ : St) (Q : Bool → Hp → Prop) (b : Bool) (s' : Shared) : Prop := ∃ H', Inv X pins σ H' s' ∧ Q b H'
def AP (X : Cx) (pins : List (Addr × Obj)) (σ : St) (Q : List V → Hp → Prop) (us : List Value) (s' : Shared) : Prop := ∃ vs H', Inv X pins σ H' s' ∧ Vals vs us ∧ Q vs H'
def SP (X : Cx) (pins : List (Addr × Obj)) (D : Ends) (f : Flow) (s' : Shared) : Prop :=
  match f with
  | .next => ∃ σ' H', Inv X pins σ' H' s' ∧ D.nx σ' H'
  | .brk => ∃ σ' H', Inv X pins σ' H' s' ∧ D.bk σ' H'
  | .cont => ∃ σ' H', Inv X pins σ' H' s' ∧ D.ct σ' H'
  | .ret u => ∃ v σ' H', Inv X pins σ' H' s' ∧ RelV v u ∧ D.rt v H'

def PE (X : Cx) (e : Expr) (t : TE) : Prop :=
  ∀ (pins : List (Addr × Obj)) (s : Shared) (σ : St) (H : Hp) (Q : VK), Inv X pins σ H s → t σ H Q → wpAny (model X.prog X.w) X.A (eval e X.env) (EP X pins σ Q) X.xe s
def PT (X : Cx) (e : Expr) (t : TT) : Prop :=
  ∀ (pins : List (Addr × Obj)) (s : Shared) (σ : St) (H : Hp) (Q : Bool → Hp → Prop), Inv X pins σ H s → t σ H Q → wpAny (model X.prog X.w) X.A (isTrue e X.env (eval e X.env)) (TP X pins σ Q) X.xe s
/-- a test whatever its 'whole' is (and, or) -/
def PW (X : Cx) (e : Expr) (t : TT) : Prop :=
  ∀ (whole : Sem Value) (pins : List (Addr × Obj)) (s : Shared) (σ : St) (H : Hp) (Q : Bool → Hp → Prop), Inv X pins σ H s → t σ H Q → wpAny (model X.prog X.w) X.A (isTrue e X.env whole) (TP X pins σ Q) X.xe s
theorem PW.pt {X : Cx} {e : Expr} {t : TT} (h : PW X e t) : PT X e t := h _
/-- an argument list (no star), from the left -/
def PA (X : Cx) (es : List Expr) (t : TA) : Prop :=
  ∀ (pos : Pos) (pins : List (Addr × Obj)) (s : Shared) (σ : St) (H : Hp) (Q : List V → Hp → Prop), Inv X pins σ H s → t σ H Q → wpAny (model X.prog X.w) X.A (spliced (backTo pos (starEach es X.env))) (AP X pins σ Q) X.xe s
def PS (X : Cx) (st : Stmt) (t : TS) : Prop :=
  ∀ (pins : List (Addr × Obj)) (s : Shared) (σ : St) (H : Hp) (D : Ends), Inv X pins σ H s → t D σ H → wpAny (model X.prog X.w) X.A (exec st X.env) (SP X pins D) X.xe s
def PSs (X : Cx) (st : List Stmt) (t : TS) : Prop :=
  ∀ (pins : List (Addr × Obj)) (s : Shared) (σ : St) (H : Hp) (D : Ends), Inv X pins σ H s → t D σ H → wpAny (model X.prog X.w) X.A (execs st X.env) (SP X pins D) X.xe s
/-- weaken the end -/
theorem thn {α : Type} {t : Sem α} {Q Q' : α → Shared → Prop} {M : Model} {A : Around} {E : Value → Shared → Prop} {s : Shared} (h : wpAny M A t Q E s) (hQ : ∀ a s, Q a s → Q' a s) : wpAny M A t Q' E s := wpAny_mono h hQ fun _ _ x => x
end L2

namespace L2
open PySem PySem.Spec PyProof.Rows
section
variable {X : Cx}

/-! ### names and constants -/
def tVar (i : Nat) : TE := fun σ H Q => ∃ v, σ[i]? = some (some v) ∧ Q v H
def tC (v : V) : TE := fun _ H Q => Q v H
theorem pe_var {i : Nat} {x : Str} {pos : Pos} (hN : X.N[i]? = some x) (hv : Vis X.env.scope x) (hd : (x == ("__debug__" : Str)) = false := by decide) (hcd : (x == ("__classdict__" : Str)) = false := by decide) : PE X (.Name x pos) (tVar i) := by
  intro pins s σ H Q I h
  obtain ⟨v, e, h⟩ := h
  obtain ⟨m, hn, hl⟩ := I.loc
  obtain ⟨u, r, l⟩ := hl i x v hN e hv
  have fin : EP X pins σ Q u s := ⟨v, H, I, r, h⟩
  rcases l with ⟨hk, hm⟩ | ⟨hk, c, hc, hcell⟩
  · exact wpAny_Name (wpAny_loadName_local I.ok.kind hk hn hm fin) hd
  · rcases hk with hk | hk
    · exact wpAny_Name (wpAny_loadName_cell I.ok.kind hk hc hcell fin) hd
    · exact wpAny_Name (wpAny_loadName_free I.ok.kind hk hc hcell fin hcd) hd
theorem pe_int {i j pos} : PE X (.Constant (.int i) j pos) (tC (.int i)) := fun _ _ _ H _ I h => wpAny_Constant_int ⟨.int i, H, I.tok _, ⟨_, rfl⟩, h⟩
theorem pe_bl {b j pos} : PE X (.Constant (.bool b) j pos) (tC (.bl b)) := fun _ _ _ H _ I h => Constant_bool ⟨.bl b, H, I, rfl, h⟩
theorem pe_non {j pos} : PE X (.Constant .none j pos) (tC .non) := fun _ _ _ H _ I h => Constant_none ⟨.non, H, I, rfl, h⟩
theorem pe_str {x j pos} : PE X (.Constant (.str x) j pos) (tC (.str x)) := fun _ _ _ H _ I h => Calls.Constant_str ⟨.str x, H, I.tok _, ⟨_, rfl⟩, h⟩

/-- a global name of the def -/
def Gl (X : Cx) (x : Str) : Prop := X.env.kindOf x = some .globalImplicit
theorem ld_glob {E : Value → Shared → Prop} {pins : List (Addr × Obj)} {s : Shared} {σ : St} {H : Hp} {x : Str} {u : Value} {pos : Pos} {Q : Value → Shared → Prop} (I : Inv X pins σ H s) (hg : Gl X x) (hm : X.mg x = some u) (h : Q u s)
    (hd : (x == ("__debug__" : Str)) = false := by decide) : wpAny (model X.prog X.w) X.A (eval (.Name x pos) X.env) Q E s :=
  Calls.Name_function_global I.ok.kind hg (Calls.loadGlobal_global (by rw [I.ok.glob]; exact I.mod.glob.keeps I.bk) hm h) hd
theorem ld_blt {E : Value → Shared → Prop} {pins : List (Addr × Obj)} {s : Shared} {σ : St} {H : Hp} {x : Str} {u : Value} {pos : Pos} {Q : Value → Shared → Prop} (I : Inv X pins σ H s) (hg : Gl X x) (hm : X.mg x = none) (hv : bootBuiltins x = some u) (h : Q u s)
    (hn : x ≠ "__name__" := by decide) (hd : (x == ("__debug__" : Str)) = false := by decide) : wpAny (model X.prog X.w) X.A (eval (.Name x pos) X.env) Q E s := by
  obtain ⟨mb, h1, h2⟩ := I.mod.blt
  exact Calls.Name_function_global I.ok.kind hg (Calls.loadGlobal_builtin (by rw [I.ok.glob]; exact I.mod.glob.keeps I.bk) hm (by rw [I.ok.blt]; exact h1.keeps I.bk) ((h2 x hn).trans hv) h) hd
/-- a module's constant, a class, a function, as a value -/
theorem pe_glob {x : Str} {v : V} {u : Value} {pos : Pos} (hg : Gl X x) (hm : X.mg x = some u) (r : RelV v u) (hd : (x == ("__debug__" : Str)) = false := by decide) : PE X (.Name x pos) (tC v) :=
  fun _ _ _ H _ I h => ld_glob I hg hm ⟨v, H, I, r, h⟩ hd
theorem pe_bltn {x : Str} {v : V} {u : Value} {pos : Pos} (hg : Gl X x) (hm : X.mg x = none) (hv : bootBuiltins x = some u) (r : RelV v u) (hn : x ≠ "__name__" := by decide) (hd : (x == ("__debug__" : Str)) = false := by decide) : PE X (.Name x pos) (tC v) :=
  fun _ _ _ H _ I h => ld_blt I hg hm hv ⟨v, H, I, r, h⟩ hn hd

/-! ### arithmetic -/
/-- two ints -/
def t2I (ta tb : TE) (k : Int → Int → Hp → Prop) : St → Hp → Prop := fun σ H => ta σ H fun x H1 => tb σ H1 fun y H2 => ∃ i j, x = .int i ∧ y = .int j ∧ k i j H2
def tAdd (ta tb : TE) : TE := fun σ H Q => t2I ta tb (fun i j H2 => Q (.int (i + j)) H2) σ H
def tSub (ta tb : TE) : TE := fun σ H Q => t2I ta tb (fun i j H2 => Q (.int (i - j)) H2) σ H
/-- the left factor below 2^64 -/
def tMul (ta tb : TE) : TE := fun σ H Q => t2I ta tb (fun i j H2 => (-(2 ^ 64) < i ∧ i < 2 ^ 64) ∧ Q (.int (i * j)) H2) σ H
variable {a b : Expr} {ta tb : TE} {pos : Pos}
/-! ### comparisons -/
def PC (X : Cx) (op : CmpOp) (a b : Expr) (t : TE) : Prop :=
  ∀ (pins : List (Addr × Obj)) (s : Shared) (σ : St) (H : Hp) (Q : VK), Inv X pins σ H s → t σ H Q →
    wpAny (model X.prog X.w) X.A (eval a X.env) (fun v s₁ => wpAny (model X.prog X.w) X.A (eval b X.env) (fun u s₂ => wpAny (model X.prog X.w) X.A (compareOp op v u) (EP X pins σ Q) X.xe s₂) X.xe s₁) X.xe s
def tCmp (p : Int → Int → Bool) (ta tb : TE) : TE := fun σ H Q => t2I ta tb (fun i j H2 => Q (.bl (p i j)) H2) σ H
abbrev tLt : TE → TE → TE := tCmp fun i j => decide (i < j)
abbrev tLe : TE → TE → TE := tCmp fun i j => decide (i ≤ j)
abbrev tGt : TE → TE → TE := tCmp fun i j => decide (j < i)
abbrev tGe : TE → TE → TE := tCmp fun i j => decide (j ≤ i)
abbrev tEqI : TE → TE → TE := tCmp fun i j => decide (i = j)
abbrev tNeI : TE → TE → TE := tCmp fun i j => !decide (i = j)
/-- is None -/
def tIsN (ta : TE) : TE := fun σ H Q => ta σ H fun x H1 => Q (.bl (decide (x = .non))) H1
def tNotN (ta : TE) : TE := fun σ H Q => ta σ H fun x H1 => Q (.bl (!decide (x = .non))) H1
/-- a comparison as a value, as a test -/
def tB (t : TE) : TT := fun σ H Q => t σ H fun x H1 => ∃ c, x = .bl c ∧ Q c H1
/-! ### and, or, not -/
variable {tA tB' : TT} {rest : List Expr}
def tAnd (t u : TT) : TT := fun σ H Q => t σ H fun c H1 => if c = true then u σ H1 Q else Q false H1
def tOr (t u : TT) : TT := fun σ H Q => t σ H fun c H1 => if c = true then Q true H1 else u σ H1 Q
def tNot (t : TT) : TT := fun σ H Q => t σ H fun c H1 => Q (!c) H1
theorem pw_and1 (ha : PT X a tA) : PW X (.BoolOp .And [a] pos) tA := by
  intro wh pins s σ H Q I h
  refine isTrue_and (thn (ha pins s σ H Q I h) fun c s1 e => ?_)
  cases c with
  | true => exact isTrue_and_nil e
  | false => exact e
theorem pw_or1 (ha : PT X a tA) : PW X (.BoolOp .Or [a] pos) tA := by
  intro wh pins s σ H Q I h
  refine isTrue_or (thn (ha pins s σ H Q I h) fun c s1 e => ?_)
  cases c with
  | false => exact isTrue_or_nil e
  | true => exact e
theorem pw_and (ha : PT X a tA) (hb : PW X (.BoolOp .And (b :: rest) pos) tB') : PW X (.BoolOp .And (a :: b :: rest) pos) (tAnd tA tB') := by
  intro wh pins s σ H Q I h
  refine isTrue_and (thn (ha pins s σ H _ I h) fun c s1 ⟨H1, I1, q1⟩ => ?_)
  cases c with
  | true => exact hb wh pins s1 σ H1 Q I1 q1
  | false => exact ⟨H1, I1, q1⟩
theorem pw_or (ha : PT X a tA) (hb : PW X (.BoolOp .Or (b :: rest) pos) tB') : PW X (.BoolOp .Or (a :: b :: rest) pos) (tOr tA tB') := by
  intro wh pins s σ H Q I h
  refine isTrue_or (thn (ha pins s σ H _ I h) fun c s1 ⟨H1, I1, q1⟩ => ?_)
  cases c with
  | true => exact ⟨H1, I1, q1⟩
  | false => exact hb wh pins s1 σ H1 Q I1 q1
theorem pt_not (ha : PT X a tA) : PT X (.UnaryOp .Not a pos) (tNot tA) := by
  intro pins s σ H Q I h
  exact isTrue_not (ha pins s σ H (fun c H1 => Q (!c) H1) I h)
/-- .. as values (bools) -/
def tAndV (ta tb : TE) : TE := fun σ H Q => ta σ H fun x H1 => ∃ c, x = .bl c ∧ if c = true then tb σ H1 Q else Q (.bl false) H1
def tOrV (ta tb : TE) : TE := fun σ H Q => ta σ H fun x H1 => ∃ c, x = .bl c ∧ if c = true then Q (.bl true) H1 else tb σ H1 Q
def tNotV (ta : TE) : TE := fun σ H Q => ta σ H fun x H1 => ∃ c, x = .bl c ∧ Q (.bl (!c)) H1
theorem pe_one {op} {t : TE} (h : PE X a t) : PE X (.BoolOp op [a] pos) t := fun pins s σ H Q I hw => BoolOp_one (h pins s σ H Q I hw)
theorem pe_and (ha : PE X a ta) (hb : PE X (.BoolOp .And (b :: rest) pos) tb) : PE X (.BoolOp .And (a :: b :: rest) pos) (tAndV ta tb) := by
  intro pins s σ H Q I h
  refine BoolOp_and (thn (ha pins s σ H _ I h) fun v s1 ⟨x, H1, I1, r1, q1⟩ => ?_)
  obtain ⟨c, rfl, q1⟩ := q1
  cases r1
  refine wpAny_truthy_bool ?_
  cases c with
  | true => exact hb pins s1 σ H1 Q I1 q1
  | false => exact ⟨.bl false, H1, I1, rfl, q1⟩
theorem pe_or (ha : PE X a ta) (hb : PE X (.BoolOp .Or (b :: rest) pos) tb) : PE X (.BoolOp .Or (a :: b :: rest) pos) (tOrV ta tb) := by
  intro pins s σ H Q I h
  refine BoolOp_or (thn (ha pins s σ H _ I h) fun v s1 ⟨x, H1, I1, r1, q1⟩ => ?_)
  obtain ⟨c, rfl, q1⟩ := q1
  cases r1
  refine wpAny_truthy_bool ?_
  cases c with
  | false => exact hb pins s1 σ H1 Q I1 q1
  | true => exact ⟨.bl true, H1, I1, rfl, q1⟩
theorem pe_not (ha : PE X a ta) : PE X (.UnaryOp .Not a pos) (tNotV ta) := by
  intro pins s σ H Q I h
  refine UnaryOp_ (thn (ha pins s σ H _ I h) fun v s1 ⟨x, H1, I1, r1, q1⟩ => ?_)
  obtain ⟨c, rfl, q1⟩ := q1
  cases r1
  exact not_of (wpAny_truthy_bool ⟨.bl (!c), H1, I1, rfl, q1⟩)
/-- a if t else b -/
def tIf (t : TT) (ta tb : TE) : TE := fun σ H Q => t σ H fun c H1 => if c = true then ta σ H1 Q else tb σ H1 Q
theorem pe_ifExp {c : Expr} (hc : PT X c tA) (ha : PE X a ta) (hb : PE X b tb) : PE X (.IfExp c a b pos) (tIf tA ta tb) := by
  intro pins s σ H Q I h
  refine wpAny_IfExp (thn (hc pins s σ H _ I h) fun d s1 ⟨H1, I1, q1⟩ => ?_)
  cases d with
  | true => exact ha pins s1 σ H1 Q I1 q1
  | false => exact hb pins s1 σ H1 Q I1 q1
end
end L2

namespace L2
open PySem PySem.Spec PyProof.Rows

/-! ### a list, a tuple that is read: tracked, frozen, or an object of the module -/
def SqL (K : PySem.W.Frag) (H : Hp) (a : Addr) (xs : List V) : Prop :=
  Rd H a (.lst xs) ∨
    ∃ (o : Obj) (its : Array Value) (n : Nat), K.lookup a = some o ∧ o.cls = .type "list" ∧ o.dict = none ∧ o.data = .seq its n ∧ its.size ≤ sizeLine ∧ Vals xs its.toList
def SqT (K : PySem.W.Frag) (H : Hp) (a : Addr) (xs : List V) : Prop :=
  Rd H a (.tup xs) ∨
    ∃ (o : Obj) (its : Array Value) (n : Nat), K.lookup a = some o ∧ o.cls = .type "tuple" ∧ o.data = .seq its n ∧ its.size ≤ sizeLine ∧ Vals xs its.toList
def absV : Value → Option V
  | .none => some .non
  | .bool b => some (.bl b)
  | .int i _ => some (.int i)
  | .str x _ => some (.str x)
  | .bytes b _ => some (.byt b)
  | .float b _ => some (.flt b)
  | .ref a => some (.ref a)
  | .type n => some (.ty n)
  | _ => none
theorem RelV.abs {x : V} {u : Value} (r : RelV x u) : absV u = some x := by
  cases x with
  | non => cases r; rfl
  | bl _ => cases r; rfl
  | int _ => obtain ⟨t, rfl⟩ := r; rfl
  | str _ => obtain ⟨t, rfl⟩ := r; rfl
  | byt _ => obtain ⟨t, rfl⟩ := r; rfl
  | flt _ => obtain ⟨t, rfl⟩ := r; rfl
  | ref _ => cases r; rfl
  | ty _ => cases r; rfl
theorem RelV.inj {x y : V} {u : Value} (r : RelV x u) (q : RelV y u) : x = y := Option.some.inj (r.abs.symm.trans q.abs)
theorem Vals.inj : ∀ {xs ys : List V} {us : List Value}, Vals xs us → Vals ys us → xs = ys
  | _, _, _, .nil, .nil => rfl
  | _, _, _, .cons r t, .cons r' t' => by rw [r.inj r', Vals.inj t t']
section
variable {X : Cx} {pins : List (Addr × Obj)} {σ : St} {H : Hp} {s : Shared} {a : Addr} {xs ys : List V}
theorem SqL.of {K : PySem.W.Frag} (h : H a = some (.lst xs)) : SqL K H a xs := .inl (.inl h)
theorem SqT.of {K : PySem.W.Frag} (h : H a = some (.tup xs)) : SqT K H a xs := .inl (.inl h)
theorem Inv.list (I : Inv X pins σ H s) (h : SqL X.K H a xs) : ∃ its : List Value, Vals xs its ∧ PlainL s.heap a its.toArray ∧ xs.length ≤ sizeLine := by
  rcases h with h | ⟨o, its, n, hk, hc, hd, hs, hz, r⟩
  · obtain ⟨z, its, n, r, e⟩ := h.ok I.hok
    exact ⟨its, r, ⟨_, n, e, rfl, rfl, rfl⟩, z⟩
  · refine ⟨its.toList, r, ⟨o, n, I.kIn a o hk, hc, hd, by simpa using hs⟩, ?_⟩
    have e := r.length
    simp only [Array.length_toList] at e
    omega
theorem Inv.tuple (I : Inv X pins σ H s) (h : SqT X.K H a xs) : ∃ its : List Value, Vals xs its ∧ IsTup s.heap a its.toArray ∧ xs.length ≤ sizeLine := by
  rcases h with h | ⟨o, its, n, hk, hc, hs, hz, r⟩
  · obtain ⟨z, its, r, p⟩ := h.ok I.hok
    exact ⟨its, r, p, z⟩
  · refine ⟨its.toList, r, ⟨o, I.kIn a o hk, hc, n, by simpa using hs⟩, ?_⟩
    have e := r.length
    simp only [Array.length_toList] at e
    omega
theorem Inv.list_inj (I : Inv X pins σ H s) (h : SqL X.K H a xs) (h' : SqL X.K H a ys) : xs = ys := by
  obtain ⟨its, r, ⟨o, n, e, _, _, d⟩, _⟩ := I.list h
  obtain ⟨its', r', ⟨o', n', e', _, _, d'⟩, _⟩ := I.list h'
  rw [e] at e'; cases e'
  rw [d] at d'
  injection d' with d1 _
  have : its = its' := by simpa using congrArg Array.toList d1
  subst this
  exact r.inj r'
end

/-! ### another wish about exceptions -/
abbrev Cx.wish (X : Cx) (E : Value → Shared → Prop) : Cx := { X with xe := E }
/-- no exception leaves -/
abbrev Cx.nox (X : Cx) : Cx := X.wish fun _ _ => False
theorem Cx.Ok.wish {X : Cx} (ok : X.Ok) (E : Value → Shared → Prop) : (X.wish E).Ok :=
  ⟨ok.mod, ok.kind, ok.glob, ok.blt, ok.above, ok.inj, ok.has, ok.cab, ok.hd, ok.frames, ok.stk, ok.exf, ok.bs, ok.bsz, ok.noex, ok.exfs, ok.funs, ok.frf⟩
theorem Cx.Ok.unwish {X : Cx} {E : Value → Shared → Prop} (ok : (X.wish E).Ok) : X.Ok :=
  ⟨ok.mod, ok.kind, ok.glob, ok.blt, ok.above, ok.inj, ok.has, ok.cab, ok.hd, ok.frames, ok.stk, ok.exf, ok.bs, ok.bsz, ok.noex, ok.exfs, ok.funs, ok.frf⟩
section
variable {X : Cx} {pins : List (Addr × Obj)} {σ : St} {H : Hp} {s : Shared} {E : Value → Shared → Prop}
theorem Inv.wish (I : Inv X pins σ H s) (E : Value → Shared → Prop) : Inv (X.wish E) pins σ H s := ⟨I.ok.wish E, I.os, I.bare, I.base, I.loc, I.cell, I.free, I.freeC, I.pin, I.hok, I.len⟩
theorem Inv.unwish (I : Inv (X.wish E) pins σ H s) : Inv X pins σ H s := ⟨I.ok.unwish, I.os, I.bare, I.base, I.loc, I.cell, I.free, I.freeC, I.pin, I.hok, I.len⟩
theorem SP.unwish {D : Ends} {f : Flow} {s' : Shared} (h : SP (X.wish E) pins D f s') : SP X pins D f s' := by
  cases f with
  | next => obtain ⟨σ', H', I, q⟩ := h; exact ⟨σ', H', I.unwish, q⟩
  | brk => obtain ⟨σ', H', I, q⟩ := h; exact ⟨σ', H', I.unwish, q⟩
  | cont => obtain ⟨σ', H', I, q⟩ := h; exact ⟨σ', H', I.unwish, q⟩
  | ret u => obtain ⟨v, σ', H', I, r, q⟩ := h; exact ⟨v, σ', H', I.unwish, r, q⟩
theorem PSs.nox {st : List Stmt} {t : TS} (h : PSs X.nox st t) : PSs X st t := fun pins s σ H D I hw =>
  wpAny_mono (h pins s σ H D (I.wish _) hw) (fun _ _ q => q.unwish) fun _ _ z => False.elim z
end

/-! ### blocks and small statements -/
section
variable {X : Cx} {st : Stmt} {rest : List Stmt} {t u : TS} {e : Expr} {te : TE} {pos : Pos}
def tNext : TS := fun D σ H => D.nx σ H
def tSeq (t u : TS) : TS := fun D σ H => t { D with nx := u D } σ H
theorem pss_nil : PSs X [] tNext := fun _ _ σ H _ I h => wpAny_execs_nil ⟨σ, H, I, h⟩
theorem pss_cons (h1 : PS X st t) (h2 : PSs X rest u) : PSs X (st :: rest) (tSeq t u) := by
  intro pins s σ H D I h
  refine wpAny_execs_cons (thn (h1 pins s σ H { D with nx := u D } I h) fun f s1 q => ?_)
  cases f with
  | next =>
    obtain ⟨σ', H', I', q⟩ := q
    exact h2 pins s1 σ' H' D I' q
  | ret v => exact q
  | brk => exact q
  | cont => exact q
theorem pss_one (h1 : PS X st t) : PSs X [st] t := by
  intro pins s σ H D I h
  refine wpAny_execs_cons (thn (h1 pins s σ H D I h) fun f s1 q => ?_)
  cases f with
  | next => exact wpAny_execs_nil q
  | ret v => exact q
  | brk => exact q
  | cont => exact q
def tBreak : TS := fun D σ H => D.bk σ H
def tCont : TS := fun D σ H => D.ct σ H
/-- in a def's body nothing is shown -/
theorem Inv.quiet {pins : List (Addr × Obj)} {σ : St} {H : Hp} {s : Shared} (I : Inv X pins σ H s) : interactive X.env = false := by simp [interactive, I.ok.kind]
/-- an expression whose value is dropped -/
def tDrop (te : TE) : TS := fun D σ H => te σ H fun _ H1 => D.nx σ H1
theorem ps_expr (he : PE X e te) (hs : swapsWith e none pos.line X.env = pure false := by rfl) : PS X (.Expr e pos) (tDrop te) := by
  intro pins s σ H D I h
  exact wpAny_Expr_any (thn (he pins s σ H _ I h) fun v s1 ⟨x, H1, I1, r1, q1⟩ => ⟨σ, H1, I1, q1⟩) I.quiet hs
def tRet (te : TE) : TS := fun D σ H => te σ H D.rt
theorem ps_ret (he : PE X e te) : PS X (.Return (some e) pos) (tRet te) := by
  intro pins s σ H D I h
  exact wpAny_Return_some (thn (he pins s σ H _ I h) fun v s1 ⟨x, H1, I1, r1, q1⟩ => ⟨x, σ, H1, I1, r1, q1⟩)
def tRetN : TS := fun D _ H => D.rt .non H
def tIfS (c : TT) (t u : TS) : TS := fun D σ H => c σ H fun b H1 => if b = true then t D σ H1 else u D σ H1
theorem ps_if {c : Expr} {a b : List Stmt} {tc : TT} (hc : PT X c tc) (ha : PSs X a t) (hb : PSs X b u) : PS X (.If c a b pos) (tIfS tc t u) := by
  intro pins s σ H D I h
  refine wpAny_If (thn (hc pins s σ H _ I h) fun d s1 ⟨H1, I1, q1⟩ => ?_)
  cases d with
  | true => exact ha pins s1 σ H1 D I1 q1
  | false => exact hb pins s1 σ H1 D I1 q1
/-- code that the proof never comes to -/
def tNever : TS := fun _ _ _ => False
end

/-! ### targets -/
abbrev TG := V → St → Hp → (St → Hp → Prop) → Prop
abbrev TGs := List V → St → Hp → (St → Hp → Prop) → Prop
def PG (X : Cx) (target : Expr) (t : TG) : Prop :=
  ∀ (pins : List (Addr × Obj)) (s : Shared) (σ : St) (H : Hp) (v : V) (u : Value) (Q : St → Hp → Prop), Inv X pins σ H s → RelV v u → t v σ H Q →
    wpAny (model X.prog X.w) X.A (assign target X.env u) (fun _ s' => ∃ σ' H', Inv X pins σ' H' s' ∧ Q σ' H') X.xe s
/-- several targets, one after another -/
def PGs (X : Cx) (ts : List Expr) (t : TGs) : Prop :=
  ∀ (pins : List (Addr × Obj)) (s : Shared) (σ : St) (H : Hp) (vs : List V) (us : List Value) (Q : St → Hp → Prop), Inv X pins σ H s → Vals vs us → t vs σ H Q →
    wpAny (model X.prog X.w) X.A (assignInOrder ((assignEach ts X.env).map (·.2)) us) (fun _ s' => ∃ σ' H', Inv X pins σ' H' s' ∧ Q σ' H') X.xe s
/-- o[i] = v, by values -/
abbrev TSet := V → V → V → Hp → (Hp → Prop) → Prop
def PSet (X : Cx) (t : TSet) : Prop :=
  ∀ (pins : List (Addr × Obj)) (s : Shared) (σ : St) (H : Hp) (o i v : V) (ov iv u : Value) (Q : Hp → Prop), Inv X pins σ H s → RelV o ov → RelV i iv → RelV v u → t o i v H Q →
    wpAny (model X.prog X.w) X.A (setItem ov iv u) (fun _ s' => ∃ H', Inv X pins σ H' s' ∧ Q H') X.xe s
/-- a op= b, by values -/
abbrev TIp := V → V → Hp → VK → Prop
def PIp (X : Cx) (op : Operator) (t : TIp) : Prop :=
  ∀ (pins : List (Addr × Obj)) (s : Shared) (σ : St) (H : Hp) (x y : V) (v u : Value) (Q : VK), Inv X pins σ H s → RelV x v → RelV y u → t x y H Q →
    wpAny (model X.prog X.w) X.A (inplaceOp op v u) (EP X pins σ Q) X.xe s
section
variable {X : Cx} {pos : Pos}
def gName (i : Nat) : TG := fun v σ H Q => Q (σ.set i (some v)) H
theorem pg_name {i : Nat} {x : Str} (hN : X.N.Nodup) (hi : X.N[i]? = some x) (hx : Loc X.env.scope x) (hf : X.fn x = true ∨ X.env.scope.names.lookup x = some .local := by first | exact .inl rfl | exact .inr rfl | assumption) : PG X (.Name x pos) (gName i) := by
  intro pins s σ H v u Q I r h
  exact wpAny_assign_Name (store_ok I hN hi hx r (fun s' I' => ⟨_, H, I', h⟩) hf)
def gNil : TGs := fun vs σ H Q => vs = [] ∧ Q σ H
def gCons (t : TG) (u : TGs) : TGs := fun vs σ H Q => ∃ v r, vs = v :: r ∧ t v σ H fun σ' H' => u r σ' H' Q
theorem pgs_nil : PGs X [] gNil := by
  intro pins s σ H vs us Q I r h
  obtain ⟨e, h⟩ := h
  subst e
  cases r
  exact assignInOrder_nil ⟨σ, H, I, h⟩
theorem pgs_cons {e : Expr} {es : List Expr} {t : TG} {u : TGs} (h1 : PG X e t) (h2 : PGs X es u)
    (hs : (assignEach (e :: es) X.env).map (·.2) = assign e X.env :: (assignEach es X.env).map (·.2) := by rfl) : PGs X (e :: es) (gCons t u) := by
  intro pins s σ H vs us Q I r h
  obtain ⟨v, vr, e1, h⟩ := h
  subst e1
  cases r with
  | cons r rr =>
    rw [hs]
    refine assignInOrder_cons (thn (h1 pins s σ H _ _ _ I r h) fun _ s1 ⟨σ1, H1, I1, q1⟩ => ?_)
    exact h2 pins s1 σ1 H1 _ _ Q I1 rr q1
/-- (a, b, ..) = a tuple of that length -/
def gTup (K : PySem.W.Frag) (n : Nat) (t : TGs) : TG := fun v σ H Q => ∃ a xs, v = .ref a ∧ SqT K H a xs ∧ xs.length = n ∧ t xs σ H Q
theorem pg_tup {es : List Expr} {k : Nat} {t : TGs} {n : Nat} (hc : X.calm = true) (h : PGs X es t)
    (hn : (assignEach es X.env).length = n := by rfl) (hst : (assignEach es X.env).findIdx? (·.1) = none := by rfl) : PG X (.Tuple es k pos) (gTup X.K n t) := by
  intro pins s σ H v u Q I r hw
  obtain ⟨a, xs, e1, hq, hl, hw⟩ := hw
  subst e1
  cases r
  obtain ⟨its, rv, ht, hz⟩ := I.tuple hq
  refine assign_Tuple_tuple (I.ok.hd hc) ht (by simp [hn, ← hl, rv.length]) hst fun h' hx => ?_
  have I1 : Inv X pins σ H { s with heap := h' } := I.kept (t' := s.toks) fun b o e => hx b o (Nat.ne_of_lt (Heap.lt_size e)) e
  exact h pins _ σ H xs _ Q I1 (by simpa using rv) hw
/-- o[i] = .. -/
def gSub (to ti : TE) (t : TSet) : TG := fun v σ H Q => to σ H fun o H1 => ti σ H1 fun i H2 => t o i v H2 fun H3 => Q σ H3
theorem pg_sub {o i : Expr} {to ti : TE} {t : TSet} (ho : PE X o to) (hi : PE X i ti) (hs : PSet X t)
    (ha : ∀ v, assign (.Subscript o i pos) X.env v = (do
      let ov ← holding [v] (eval o X.env)
      let iv ← holding [v, ov] (eval i X.env)
      standAt pos
      holding [v, ov, iv] (setItem ov iv v)
      release [v, ov, iv] []) := by intro _; rfl) : PG X (.Subscript o i pos) (gSub to ti t) := by
  intro pins s σ H v u Q I r h
  rw [ha]
  refine wpAny_bind (wpAny_holding (thn (ho pins s σ H _ I h) fun ov s1 ⟨x, H1, I1, r1, q1⟩ => ?_))
  refine wpAny_bind (wpAny_holding (thn (hi pins s1 σ H1 _ I1 q1) fun iv s2 ⟨y, H2, I2, r2, q2⟩ => ?_))
  refine wpAny_bind (wpAny_standAt (wpAny_bind (wpAny_holding (thn (hs pins s2 σ H2 x y v ov iv u _ I2 r1 r2 r q2) fun _ s3 ⟨H3, I3, q3⟩ => ?_))))
  exact wpAny_release ⟨σ, H3, I3, q3⟩
/-- target = value -/
def tAsg (te : TE) (g : TG) : TS := fun D σ H => te σ H fun x H1 => g x σ H1 D.nx
theorem ps_asg {tg e : Expr} {te : TE} {g : TG} (he : PE X e te) (hg : PG X tg g) (hs : swapsWithSole [tg] e pos.line X.env = pure false := by rfl) (hw : swappedStores [tg] e X.env = pure none := by rfl)
    (h1 : (assignEach [tg] X.env).map (·.2) = [assign tg X.env] := by rfl) : PS X (.Assign [tg] e pos) (tAsg te g) := by
  intro pins s σ H D I h
  refine wpAny_Assign_stores (thn (he pins s σ H _ I h) fun v s1 ⟨x, H1, I1, r1, q1⟩ => ?_) hs hw
  rw [h1]
  exact thn (hg pins s1 σ H1 x v _ I1 r1 q1) fun _ s2 q => q
/-- name = value -/
theorem ps_set {i : Nat} {x : Str} {e : Expr} {te : TE} {pos' : Pos} (hN : X.N.Nodup) (hi : X.N[i]? = some x) (hx : Loc X.env.scope x) (he : PE X e te) (hs : swapsWith e (some (.Name x pos')) pos.line X.env = pure false := by rfl) (hf : X.fn x = true ∨ X.env.scope.names.lookup x = some .local := by first | exact .inl rfl | exact .inr rfl | assumption) :
    PS X (.Assign [.Name x pos'] e pos) (tAsg te (gName i)) := by
  intro pins s σ H D I h
  refine wpAny_Assign_Name (thn (he pins s σ H _ I h) fun v s1 ⟨y, H1, I1, r1, q1⟩ => ?_) hs
  exact store_ok I1 hN hi hx r1 (fun s2 I2 => ⟨_, H1, I2, q1⟩) hf
/-- a, b = x, y with plain local names: stored from the right; the pair itself is not tracked (the opening rows as in PyProof/Rows/TupAssign.lean:23) -/
def tPar (i j : Nat) (ta : TA) : TS := fun D σ H => ta σ H fun vs H1 => ∃ v w, vs = [v, w] ∧ D.nx ((σ.set i (some v)).set j (some w)) H1
/-- name op= e -/
def tAug (i : Nat) (te : TE) (ti : TIp) : TS := fun D σ H => ∃ x, σ[i]? = some (some x) ∧ te σ H fun y H1 => ti x y H1 fun z H2 => D.nx (σ.set i (some z)) H2
/-- o[i] op= e -/
def tAugS (to ti te : TE) (tget : V → V → Hp → VK → Prop) (tip : TIp) (tset : TSet) : TS := fun D σ H => to σ H fun o H1 => ti σ H1 fun i H2 => tget o i H2 fun x H3 => te σ H3 fun y H4 => tip x y H4 fun z H5 => tset o i z H5 fun H6 => D.nx σ H6
/-- o[i], by values -/
def PGet (X : Cx) (t : V → V → Hp → VK → Prop) : Prop :=
  ∀ (pins : List (Addr × Obj)) (s : Shared) (σ : St) (H : Hp) (o i : V) (ov iv : Value) (Q : VK), Inv X pins σ H s → RelV o ov → RelV i iv → t o i H Q →
    wpAny (model X.prog X.w) X.A (getItem ov iv) (EP X pins σ Q) X.xe s
/-- ints -/
def ipI (f : Int → Int → Int) : TIp := fun x y H Q => ∃ i j, x = .int i ∧ y = .int j ∧ Q (.int (f i j)) H
end

/-! ### while -/
section
variable {X : Cx} {pos : Pos}
/-- the invariant W with its measure -/
def tWhile (c : TT) (tb : TS) : TS := fun D σ H => ∃ W : Nat → St → Hp → Prop, (∃ m, W m σ H) ∧ ∀ m σ H, W m σ H →
  c σ H fun b H1 => if b = true then ∃ N : St → Hp → Prop, (∀ σ' H', N σ' H' → ∃ m', m' < m ∧ W m' σ' H') ∧ tb { D with nx := N, ct := N, bk := D.nx } σ H1 else D.nx σ H1
end

/-! ### what a loop or a comprehension walks -/
/-- at turn i: it yields x (the heap may grow), or it stops -/
structure It where
  go : Nat → Hp → Prop
  yld : Nat → Hp → V → Hp → Prop
  stop : Nat → Hp → Prop
/-- the iterator's own objects may turn: they are not the frame's, not pinned, younger than the entry (or a comprehension's own) -/
def FpOk (X : Cx) (pins : List (Addr × Obj)) (H : Hp) (b : Addr) : Prop :=
  H b = none ∧ b ≠ X.env.locals ∧ b ∉ X.fs ∧ (b ∈ X.ex ∨ X.s₀.heap.objs.size ≤ b) ∧ (∀ x c, X.env.cells.lookup x = some c → c ≠ b) ∧ ∀ p ∈ X.pn ++ pins, p.1 ≠ b
theorem Inv.fpOk {X : Cx} {pins : List (Addr × Obj)} {σ : St} {H H' : Hp} {s : Shared} {b : Addr} (I : Inv X pins σ H s) (hb : s.heap.objs.size ≤ b) (hn : H' b = none) : FpOk X pins H' b := by
  refine ⟨hn, Nat.ne_of_gt (Nat.lt_of_lt_of_le I.lt hb), I.nofs hb, .inr (Nat.le_trans I.sz hb), fun x c e z => ?_, fun p hp z => ?_⟩
  · obtain ⟨v, q⟩ := I.cell x c e
    exact absurd (Nat.lt_of_lt_of_le q.lt (by rw [z]; exact hb)) (Nat.lt_irrefl _)
  · exact absurd (Nat.lt_of_lt_of_le (Heap.lt_size (I.pin p hp).1) (by rw [z]; exact hb)) (Nat.lt_irrefl _)
structure Turn (P : Program) (w : World) (K : PySem.W.Frag) (tg : Expr) (J : It) (fp : List Addr) (it : Addr) (tn : Nat → Heap → Prop) : Prop where
  mem : it ∈ fp
  obj : ∀ i h, tn i h → ∀ b ∈ fp, ∃ o, h.get? b = some o ∧ ∀ v, o.data ≠ .cell v
  keep : ∀ i h h', tn i h → (∀ b ∈ fp, ∀ o, h.get? b = some o → h'.get? b = some o) → tn i h'
  item : ∀ (X : Cx), X.prog = P → X.w = w → X.K = K → X.calm = true → ∀ (i : Nat) (pins : List (Addr × Obj)) (s : Shared) (σ : St) (H : Hp) (E : Value → Shared → Prop), Inv X pins σ H s → (∀ b ∈ fp, FpOk X pins H b) → tn i s.heap → J.go i H →
    wpAny (model P w) X.A (pyNext (.ref it)) (fun r s1 => ∃ u, r = some u ∧
      wpAny (model P w) X.A (letOwnedTupleGo tg (.ref it) u) (fun _ s2 => ∃ x H', Inv X pins σ H' s2 ∧ RelV x u ∧ J.yld i H x H' ∧ tn (i + 1) s2.heap ∧ ∀ b ∈ fp, H' b = none) E s1) E s
  done : ∀ (X : Cx), X.prog = P → X.w = w → X.K = K → X.calm = true → ∀ (i : Nat) (pins : List (Addr × Obj)) (s : Shared) (σ : St) (H : Hp) (E : Value → Shared → Prop), Inv X pins σ H s → (∀ b ∈ fp, FpOk X pins H b) → tn i s.heap → J.stop i H →
    wpAny (model P w) X.A (pyNext (.ref it)) (fun r s1 => r = none ∧ Inv X pins σ H s1) E s
  self : ∀ (A : Around) (i : Nat) (s : Shared) (Q : Value → Shared → Prop) (E : Value → Shared → Prop), tn i s.heap → Q (.ref it) s → wpAny (model P w) A (pyIter (.ref it)) Q E s
abbrev TI := St → Hp → (It → Hp → Prop) → Prop
/-- an iterator has come -/
def PIE (X : Cx) (pins : List (Addr × Obj)) (σ : St) (tg : Expr) (R : It → Hp → Prop) (itv : Value) (s2 : Shared) : Prop :=
  ∃ (it : Addr) (fp : List Addr) (tn : Nat → Heap → Prop) (J : It) (H' : Hp), itv = .ref it ∧ Inv X pins σ H' s2 ∧ Turn X.prog X.w X.K tg J fp it tn ∧ tn 0 s2.heap ∧ (∀ b ∈ fp, FpOk X pins H' b) ∧ R J H'
def PI (X : Cx) (tg iter : Expr) (wi : TI) : Prop :=
  ∀ (pins : List (Addr × Obj)) (s : Shared) (σ : St) (H : Hp) (R : It → Hp → Prop), Inv X pins σ H s → wi σ H R →
    wpAny (model X.prog X.w) X.A (eval iter X.env) (fun v s1 => wpAny (model X.prog X.w) X.A (pyIter v) (PIE X pins σ tg R) X.xe s1) X.xe s

/-- the step ahead of the store is nothing for an iterator that keeps no tuple -/
theorem go_of {M : Model} {A : Around} {E : Value → Shared → Prop} {s : Shared} {tg : Expr} {it : Addr} {u : Value} {o : Obj} {n : String} {vs : Array Value} {Q : Unit → Shared → Prop} (ho : s.heap.get? it = some o) (hc : o.cls = .type n) (hd : o.data = .fields vs)
    (hn : ["enumerate", "zip", "dict_itemiterator", "dict_reverseitemiterator", "odict_iterator", "itertools.zip_longest", "itertools.pairwise"].contains n = false) (hQ : Q () s) : wpAny M A (letOwnedTupleGo tg (.ref it) u) Q E s := by
  unfold letOwnedTupleGo
  cases tg <;> first
    | exact wpAny_pure hQ
    | (cases u <;> first
        | exact wpAny_pure hQ
        | (refine wpAny_bind (wpAny_load ho ?_)
           rw [hc, hd]
           show wpAny M A (if (["enumerate", "zip", "dict_itemiterator", "dict_reverseitemiterator", "odict_iterator", "itertools.zip_longest", "itertools.pairwise"].contains n && vs[0]? == some (rawInt _)) = true then _ else _) Q E s
           rw [if_neg (by intro h; rw [hn, Bool.false_and] at h; cases h)]
           exact wpAny_pure hQ))

/-- the list at a, as it stands at each turn (a loop may append to it) -/
def Itl (K : PySem.W.Frag) (a : Addr) : It :=
  ⟨fun i H => ∃ xs x, SqL K H a xs ∧ xs[i]? = some x, fun i H x H' => H' = H ∧ ∀ xs, SqL K H a xs → xs[i]? = some x, fun i H => ∃ xs, SqL K H a xs ∧ xs.length ≤ i⟩
def Itt (K : PySem.W.Frag) (a : Addr) : It :=
  ⟨fun i H => ∃ xs x, SqT K H a xs ∧ xs[i]? = some x, fun i H x H' => H' = H ∧ ∀ xs, SqT K H a xs → xs[i]? = some x, fun i H => ∃ xs, SqT K H a xs ∧ xs.length ≤ i⟩
/-- lo, lo + 1, .. (n of them) -/
def Itr (lo : Int) (n : Nat) : It := ⟨fun i _ => i < n, fun i H x H' => H' = H ∧ x = .int (lo + i), fun i _ => n ≤ i⟩
theorem turn_list {P : Program} {w : World} {K : PySem.W.Frag} {tg : Expr} (a it : Addr) : Turn P w K tg (Itl K a) [it] it (fun i h => h.IsListIter it a i) where
  mem := by simp
  obj := fun i h st b hb => by
    have e : b = it := by simpa using hb
    subst e
    obtain ⟨o, e, c, d⟩ := st
    exact ⟨o, e, fun v z => by rw [d] at z; cases z⟩
  keep := fun i h h' st k => st.at fun o e => k it (by simp) o e
  item := by
    intro X hP hw hK hc i pins s σ H E I hf st hg
    subst hP hw hK
    obtain ⟨xs, x, hq, hx⟩ := hg
    obtain ⟨its, rv, p, hz⟩ := I.list hq
    obtain ⟨u, hu, ru⟩ := rv.get hx
    obtain ⟨f0, f1, f2, f3, f4, f5⟩ := hf it (by simp)
    refine wpAny_pyNext_list_item st p.isList (x := u) (by simpa using hu) fun h' st' sb => ?_
    have I1 : Inv X pins σ H { s with heap := h' } := I.turned (t' := s.toks) (fun b o hb e => (sb.2 b hb).trans e) f0 f1 f3 f4 f5
    obtain ⟨o, e, c, d⟩ := id st'
    exact ⟨u, rfl, go_of (s := { s with heap := h' }) e c d (by decide) ⟨x, H, I1, ru, ⟨rfl, fun ys hy => by rw [I.list_inj hy hq]; exact hx⟩, st', fun b hb => (hf b hb).1⟩⟩
  done := by
    intro X hP hw hK hc i pins s σ H E I hf st hg
    subst hP hw hK
    obtain ⟨xs, hq, hx⟩ := hg
    obtain ⟨its, rv, p, hz⟩ := I.list hq
    obtain ⟨f0, f1, f2, f3, f4, f5⟩ := hf it (by simp)
    have hl := rv.length
    exact wpAny_pyNext_list_end (I.ok.hd hc) st p.isList (by simp; omega) fun h' eb => ⟨rfl, I.turned (t' := s.toks) (fun b o hb e => eb b o hb e) f0 f1 f3 f4 f5⟩
  self := fun _ _ _ _ _ st h => wpAny_pyIter_listiter st h
theorem turn_range {P : Program} {w : World} {K : PySem.W.Frag} {tg : Expr} (it : Addr) (lo : Int) (n : Nat) : Turn P w K tg (Itr lo n) [it] it (fun i h => IsRangeIter h it (lo + (i : Nat) * 1) ((n : Int) - (i : Nat)) 1) where
  mem := by simp
  obj := fun i h st b hb => by
    have e : b = it := by simpa using hb
    subst e
    exact ⟨_, st, fun v z => by
      have z' : Data.fields _ = Data.cell v := z
      cases z'⟩
  keep := fun i h h' st k => k it (by simp) _ st
  item := by
    intro X hP hw hK hc i pins s σ H E I hf st hg
    subst hP hw hK
    obtain ⟨f0, f1, f2, f3, f4, f5⟩ := hf it (by simp)
    have W := Walks.range (prog := X.prog) (w := X.w) (I.ok.hd hc) it lo 1 n
    refine W.item i s _ _ hg st fun v h' tk hv st' kk => ?_
    obtain ⟨t, rfl⟩ := hv
    have I1 : Inv X pins σ H { s with heap := h', toks := tk } := I.turned (fun b o hb e => kk b o (by simpa using hb) e) f0 f1 f3 f4 f5
    refine ⟨_, rfl, go_of (s := { s with heap := h', toks := tk }) (n := "range_iterator") st' rfl rfl (by decide) ⟨.int (lo + i), H, I1, ⟨t, ?_⟩, ⟨rfl, rfl⟩, st', fun b hb => (hf b hb).1⟩⟩
    rw [Int.mul_one]
  done := by
    intro X hP hw hK hc i pins s σ H E I hf st hg
    subst hP hw hK
    obtain ⟨f0, f1, f2, f3, f4, f5⟩ := hf it (by simp)
    exact wpAny_pyNext_range_end (I.ok.hd hc) st (by have : n ≤ i := hg; omega) fun h' eb => ⟨rfl, I.turned (t' := s.toks) (fun b o hb e => eb b o hb e) f0 f1 f3 f4 f5⟩
  self := fun _ _ _ _ _ st h => wpAny_pyIter_rangeiter st h
end L2

namespace L2
open PySem PySem.Spec PyProof.Rows
section
variable {X : Cx} {tg : Expr}
def iList (K : PySem.W.Frag) (tl : TE) : TI := fun σ H R => tl σ H fun x H1 => ∃ a, x = .ref a ∧ (∃ xs, SqL K H1 a xs) ∧ R (Itl K a) H1
def iTup (K : PySem.W.Frag) (tl : TE) : TI := fun σ H R => tl σ H fun x H1 => ∃ a, x = .ref a ∧ (∃ xs, SqT K H1 a xs) ∧ R (Itt K a) H1
theorem pi_list {l : Expr} {tl : TE} (hl : PE X l tl) : PI X tg l (iList X.K tl) := by
  intro pins s σ H R I h
  refine thn (hl pins s σ H _ I h) fun v s1 ⟨x, H1, I1, r1, q1⟩ => ?_
  obtain ⟨a, e, ⟨xs, hq⟩, q⟩ := q1
  subst e
  cases r1
  obtain ⟨its, rv, p, hz⟩ := I1.list hq
  refine wpAny_pyIter_list p.isList ?_
  refine ⟨s1.heap.objs.size, [s1.heap.objs.size], _, _, H1, rfl, I1.kept (t' := s1.toks) fun b o e => Heap.get?_push_of_some _ e, turn_list a _, ⟨_, Heap.get?_push_size _ rfl, rfl, rfl⟩, fun b hb => ?_, q⟩
  have e : b = s1.heap.objs.size := by simpa using hb
  subst e
  exact I1.fpOk (Nat.le_refl _) (I1.hok.fresh (Nat.le_refl _))
/-- a range object just made, walked -/
theorem range_it {pins : List (Addr × Obj)} {σ : St} {H : Hp} {s : Shared} {R : It → Hp → Prop} {E : Value → Shared → Prop} {lo hi : Int} {t u v : Tok} {tk : Nat} (I : Inv X pins σ H s) (h1 : -(2 ^ 62) ≤ lo) (h2 : lo < 2 ^ 62) (h3 : -(2 ^ 62) ≤ hi) (h4 : hi < 2 ^ 62)
    (q : R (Itr lo (hi - lo).toNat) H) : wpAny (model X.prog X.w) X.A (pyIter (.ref s.heap.objs.size)) (PIE X pins σ tg R) E { s with heap := s.heap.push { cls := .type "range", data := .fields #[.int lo t, .int hi u, .int 1 v] }, toks := tk } := by
  refine wpAny_pyIter_range (IsRange.new ..) (small_one h1 h2 h3 h4) ?_
  have I1 : Inv X pins σ H { s with heap := s.heap.push { cls := .type "range", data := .fields #[.int lo t, .int hi u, .int 1 v] }, toks := tk } := I.kept fun b o e => Heap.get?_push_of_some _ e
  refine ⟨(s.heap.push { cls := .type "range", data := .fields #[.int lo t, .int hi u, .int 1 v] }).objs.size, [(s.heap.push { cls := .type "range", data := .fields #[.int lo t, .int hi u, .int 1 v] }).objs.size], _, _, H, rfl,
    I1.kept (t' := tk) fun b o e => Heap.get?_push_of_some _ e, turn_range _ lo (hi - lo).toNat, ?_, fun b hb => ?_, q⟩
  · have e1 : lo + ((0 : Nat) : Int) * 1 = lo := by simp
    have e2 : (((hi - lo).toNat : Nat) : Int) - ((0 : Nat) : Int) = Builtin.Range.rangeSize lo hi 1 := by rw [rangeSize_one]; split <;> omega
    show IsRangeIter _ _ (lo + ((0 : Nat) : Int) * 1) ((((hi - lo).toNat : Nat) : Int) - ((0 : Nat) : Int)) 1
    rw [e1, e2]
    exact Heap.get?_push_size _ rfl
  · have e : b = (s.heap.push { cls := .type "range", data := .fields #[.int lo t, .int hi u, .int 1 v] }).objs.size := by simpa using hb
    subst e
    exact I1.fpOk (Nat.le_refl _) (I1.hok.fresh (Nat.le_refl _))
def iRng1 (ta : TA) : TI := fun σ H R => ta σ H fun vs H1 => ∃ j : Int, vs = [.int j] ∧ -(2 ^ 62) ≤ j ∧ j < 2 ^ 62 ∧ R (Itr 0 j.toNat) H1
def iRng2 (ta : TA) : TI := fun σ H R => ta σ H fun vs H1 => ∃ i j : Int, vs = [.int i, .int j] ∧ (-(2 ^ 62) ≤ i ∧ i < 2 ^ 62 ∧ -(2 ^ 62) ≤ j ∧ j < 2 ^ 62) ∧ R (Itr i (j - i).toNat) H1
theorem pi_range1 {a : Expr} {ta : TA} {p pos : Pos} (hg : Gl X "range") (hm : X.mg "range" = none) (ha : PA X [a] ta) (hs : starEach [a] X.env = [(false, eval a X.env)] := by rfl) : PI X tg (.Call (.Name "range" p) [a] [] pos) (iRng1 ta) := by
  intro pins s σ H R I h
  refine Call_ (ld_blt I hg hm boot_range (PyProof.Rows.callWith_type1 (thn (ha pos pins s σ H _ I h) fun us s1 ⟨vs, H1, I1, r1, q1⟩ => ?_) hs rfl))
  obtain ⟨j, e, q1, q2, q⟩ := q1
  subst e
  cases r1 with
  | cons r rr =>
    cases rr
    obtain ⟨t, rfl⟩ := r
    exact call_range_1 (range_it I1 (by omega) (by omega) q1 q2 (by simpa using q))
/-! ### for -/
/-- W: the invariant by the turn and a measure; N: what the body is to reach -/
def tFor (wi : TI) (g : TG) (tb : TS) : TS := fun D σ H => wi σ H fun J H1 => ∃ W : Nat → Nat → St → Hp → Prop, (∃ m, W 0 m σ H1) ∧ ∀ i m σ H, W i m σ H →
  (J.stop i H ∧ D.nx σ H) ∨ (J.go i H ∧ ∃ N : St → Hp → Prop, (∀ σ' H', N σ' H' → ∃ m', m' < m ∧ W (i + 1) m' σ' H') ∧ ∀ x H', J.yld i H x H' → g x σ H' fun σ2 H2 => tb { D with nx := N, ct := N, bk := D.nx } σ2 H2)
/-- the records at fp as they stand -/
def pinsAt (fp : List Addr) (h : Heap) : List (Addr × Obj) := fp.filterMap fun b => (h.get? b).map fun o => (b, o)
theorem mem_pinsAt {fp : List Addr} {h : Heap} {b : Addr} {o : Obj} (hb : b ∈ fp) (e : h.get? b = some o) : (b, o) ∈ pinsAt fp h := List.mem_filterMap.mpr ⟨b, hb, by rw [e]; rfl⟩
theorem of_pinsAt {fp : List Addr} {h : Heap} {p : Addr × Obj} (hp : p ∈ pinsAt fp h) : p.1 ∈ fp ∧ h.get? p.1 = some p.2 := by
  obtain ⟨b, hb, e⟩ := List.mem_filterMap.mp hp
  cases q : h.get? b with
  | none => rw [q] at e; cases e
  | some o =>
    rw [q] at e
    have e' : (b, o) = p := Option.some.inj e
    subst e'
    exact ⟨hb, q⟩
theorem Inv.pinned {pins : List (Addr × Obj)} {σ : St} {H : Hp} {s : Shared} {fp : List Addr} (I : Inv X pins σ H s) (hf : ∀ b ∈ fp, FpOk X pins H b) (ho : ∀ b ∈ fp, ∃ o, s.heap.get? b = some o ∧ ∀ v, o.data ≠ .cell v) : Inv X (pins ++ pinsAt fp s.heap) σ H s :=
  I.pins_of fun p hp => (List.mem_append.mp hp).elim (fun z => I.pin p (List.mem_append_right _ z)) fun z => by
    obtain ⟨hb, e⟩ := of_pinsAt z
    obtain ⟨f0, f1, f2, _⟩ := hf p.1 hb
    obtain ⟨o, e', d⟩ := ho p.1 hb
    rw [e] at e'; cases e'
    exact ⟨e, f0, f1, f2, d⟩
theorem Inv.unpinned {pins pl : List (Addr × Obj)} {σ : St} {H : Hp} {s : Shared} (I : Inv X (pins ++ pl) σ H s) : Inv X pins σ H s := I.pins_of fun p hp => I.pin p (List.mem_append_right _ (List.mem_append_left _ hp))
theorem ps_for {iter : Expr} {body : List Stmt} {wi : TI} {g : TG} {tb : TS} {pos : Pos} (hp : PassesOwn (model X.prog X.w) X.A X.env X.xe) (hc : X.calm = true) (hi : PI X tg iter wi) (hg : PG X tg g) (hb : PSs X body tb)
    (hs : ∀ x, foldedSetIterable iter X.env x = pure x := by intro _; rfl) : PS X (.For tg iter body [] pos) (tFor wi g tb) := by
  intro pins s σ H D I h
  refine wpAny_For (thn (hi pins s σ H _ I h) fun v s1 h1 => thn h1 fun itv s2 h2 => ?_) hs
  obtain ⟨it, fp, tn, J, H2, e, I2, T, st2, f2, W, ⟨m0, w0⟩, turn⟩ := h2
  subst e
  -- what stays true of the iterator's objects through the loop
  have stat : ∀ {H' : Hp}, (∀ b ∈ fp, H' b = none) → ∀ b ∈ fp, FpOk X pins H' b := fun hn b hb => ⟨hn b hb, (f2 b hb).2⟩
  refine codeAny_forLoop_any (fun n s' => ∃ i σ' H', Inv X pins σ' H' s' ∧ tn i s'.heap ∧ (∀ b ∈ fp, H' b = none) ∧ W i n σ' H') ?_ m0 ⟨0, σ, H2, I2, st2, fun b hb => (f2 b hb).1, w0⟩
  rintro n s3 ⟨i, σ3, H3, I3, st3, fr3, w3⟩
  rcases turn i n σ3 H3 w3 with ⟨stop, qn⟩ | ⟨go, N, hN, step⟩
  · refine wpAny_passesOwn hp (thn (T.done X rfl rfl rfl hc i pins s3 σ3 H3 X.xe I3 (stat fr3) st3 stop) fun r s4 ⟨hr, I4⟩ => ?_)
    subst hr
    exact wpAny_execs_nil ⟨σ3, H3, I4, qn⟩
  · refine wpAny_passesOwn hp (thn (T.item X rfl rfl rfl hc i pins s3 σ3 H3 X.xe I3 (stat fr3) st3 go) fun r s4 ⟨u, hr, h4⟩ => ?_)
    subst hr
    refine wpAny_passesOwn hp (thn h4 fun _ s5 ⟨x, H5, I5, r5, y5, st5, fr5⟩ => ?_)
    have I5' := I5.pinned (stat fr5) (T.obj _ _ st5)
    refine wpAny_passesOwn hp (thn (hg _ s5 σ3 H5 x u _ I5' r5 (step x H5 y5)) fun _ s6 ⟨σ6, H6, I6, q6⟩ => ?_)
    refine wpAny_passesOwn hp (thn (hb _ s6 σ6 H6 _ I6 q6) fun f s7 q7 => ?_)
    have again : ∀ {σ7 : St} {H7 : Hp}, Inv X (pins ++ pinsAt fp s5.heap) σ7 H7 s7 → N σ7 H7 → ∃ m, m < n ∧ ∃ i σ' H', Inv X pins σ' H' s7 ∧ tn i s7.heap ∧ (∀ b ∈ fp, H' b = none) ∧ W i m σ' H' := fun {σ7 H7} I7 n7 => by
      obtain ⟨m', hm, w7⟩ := hN σ7 H7 n7
      refine ⟨m', hm, i + 1, σ7, H7, I7.unpinned, T.keep _ _ _ st5 fun b hb o e => (I7.pin (b, o) (List.mem_append_right _ (List.mem_append_right _ (mem_pinsAt hb e)))).1, fun b hb => ?_, w7⟩
      obtain ⟨o, e, d⟩ := T.obj _ _ st5 b hb
      exact (I7.pin (b, o) (List.mem_append_right _ (List.mem_append_right _ (mem_pinsAt hb e)))).2.1
    cases f with
    | next => obtain ⟨σ7, H7, I7, n7⟩ := q7; exact again I7 n7
    | cont => obtain ⟨σ7, H7, I7, n7⟩ := q7; exact again I7 n7
    | brk => obtain ⟨σ7, H7, I7, q7⟩ := q7; exact ⟨σ7, H7, I7.unpinned, q7⟩
    | ret v => obtain ⟨x7, σ7, H7, I7, r7, q7⟩ := q7; exact ⟨x7, σ7, H7, I7.unpinned, r7, q7⟩
end

/-! ### the forms one uses -/
/-- over a list that the body leaves as it is -/
theorem for_list {K : PySem.W.Frag} {a : Addr} {xs : List V} {g : TG} {tb : TS} {D : Ends} {σ : St} {H : Hp} (Pv : Nat → St → Hp → Prop) (h0 : Pv 0 σ H) (hl : ∀ i σ H, i ≤ xs.length → Pv i σ H → SqL K H a xs)
    (hs : ∀ i x σ H, xs[i]? = some x → Pv i σ H → g x σ H fun σ2 H2 => tb { D with nx := Pv (i + 1), ct := Pv (i + 1), bk := D.nx } σ2 H2) (hd : ∀ σ H, Pv xs.length σ H → D.nx σ H) :
    ∃ W : Nat → Nat → St → Hp → Prop, (∃ m, W 0 m σ H) ∧ ∀ i m σ H, W i m σ H →
      ((Itl K a).stop i H ∧ D.nx σ H) ∨ ((Itl K a).go i H ∧ ∃ N : St → Hp → Prop, (∀ σ' H', N σ' H' → ∃ m', m' < m ∧ W (i + 1) m' σ' H') ∧ ∀ x H', (Itl K a).yld i H x H' → g x σ H' fun σ2 H2 => tb { D with nx := N, ct := N, bk := D.nx } σ2 H2) := by
  refine ⟨fun i m σ H => m = xs.length - i ∧ i ≤ xs.length ∧ Pv i σ H, ⟨xs.length, by simp, Nat.zero_le _, h0⟩, ?_⟩
  rintro i m σ H ⟨rfl, hi, p⟩
  have q := hl i σ H hi p
  by_cases hlt : i < xs.length
  · refine .inr ⟨⟨xs, xs[i], q, by simp [hlt]⟩, Pv (i + 1), fun σ' H' p' => ⟨xs.length - (i + 1), by omega, rfl, hlt, p'⟩, fun x H' y => ?_⟩
    obtain ⟨e, y⟩ := y
    subst e
    exact hs i x σ _ (y xs q) p
  · have e : i = xs.length := by omega
    subst e
    exact .inl ⟨⟨xs, q, Nat.le_refl _⟩, hd σ H p⟩
theorem for_range {lo : Int} {n : Nat} {g : TG} {tb : TS} {D : Ends} {σ : St} {H : Hp} (Pv : Nat → St → Hp → Prop) (h0 : Pv 0 σ H)
    (hs : ∀ i σ H, i < n → Pv i σ H → g (.int (lo + i)) σ H fun σ2 H2 => tb { D with nx := Pv (i + 1), ct := Pv (i + 1), bk := D.nx } σ2 H2) (hd : ∀ σ H, Pv n σ H → D.nx σ H) :
    ∃ W : Nat → Nat → St → Hp → Prop, (∃ m, W 0 m σ H) ∧ ∀ i m σ H, W i m σ H →
      ((Itr lo n).stop i H ∧ D.nx σ H) ∨ ((Itr lo n).go i H ∧ ∃ N : St → Hp → Prop, (∀ σ' H', N σ' H' → ∃ m', m' < m ∧ W (i + 1) m' σ' H') ∧ ∀ x H', (Itr lo n).yld i H x H' → g x σ H' fun σ2 H2 => tb { D with nx := N, ct := N, bk := D.nx } σ2 H2) := by
  refine ⟨fun i m σ H => m = n - i ∧ i ≤ n ∧ Pv i σ H, ⟨n, by simp, Nat.zero_le _, h0⟩, ?_⟩
  rintro i m σ H ⟨rfl, hi, p⟩
  by_cases hlt : i < n
  · refine .inr ⟨hlt, Pv (i + 1), fun σ' H' p' => ⟨n - (i + 1), by omega, rfl, hlt, p'⟩, fun x H' y => ?_⟩
    obtain ⟨e, y⟩ := y
    subst e y
    exact hs i σ _ hlt p
  · have e : i = n := by omega
    subst e
    exact .inl ⟨Nat.le_refl _, hd σ H p⟩
end L2

namespace L2
open PySem PySem.Spec PyProof.Rows

abbrev R2 := V → V → Hp → VK → Prop
/-- a two-place operation on values: f is binaryOp op, inplaceOp op or compareOp op -/
def OpR (X : Cx) (f : Value → Value → Sem Value) (r : R2) : Prop :=
  ∀ (pins : List (Addr × Obj)) (s : Shared) (σ : St) (H : Hp) (x y : V) (v u : Value) (Q : VK), Inv X pins σ H s → RelV x v → RelV y u → r x y H Q →
    wpAny (model X.prog X.w) X.A (f v u) (EP X pins σ Q) X.xe s
/-- a one-place operation -/
def UnR (X : Cx) (f : Value → Sem Value) (r : V → Hp → VK → Prop) : Prop :=
  ∀ (pins : List (Addr × Obj)) (s : Shared) (σ : St) (H : Hp) (x : V) (v : Value) (Q : VK), Inv X pins σ H s → RelV x v → r x H Q →
    wpAny (model X.prog X.w) X.A (f v) (EP X pins σ Q) X.xe s
/-- a call of a value that is known (a builtin, a type) with values -/
def CallR (X : Cx) (f : Value) (r : List V → Hp → VK → Prop) : Prop :=
  ∀ (pins : List (Addr × Obj)) (s : Shared) (σ : St) (H : Hp) (xs : List V) (us : List Value) (Q : VK), Inv X pins σ H s → Vals xs us → r xs H Q →
    wpAny (model X.prog X.w) X.A (call f us) (EP X pins σ Q) X.xe s
/-- a value's truth -/
def TruR (X : Cx) (r : V → Hp → (Bool → Hp → Prop) → Prop) : Prop :=
  ∀ (pins : List (Addr × Obj)) (s : Shared) (σ : St) (H : Hp) (x : V) (v : Value) (Q : Bool → Hp → Prop), Inv X pins σ H s → RelV x v → r x H Q →
    wpAny (model X.prog X.w) X.A (truthy v) (TP X pins σ Q) X.xe s

def tOp (r : R2) (ta tb : TE) : TE := fun σ H Q => ta σ H fun x H1 => tb σ H1 fun y H2 => r x y H2 Q
def tUn (r : V → Hp → VK → Prop) (ta : TE) : TE := fun σ H Q => ta σ H fun x H1 => r x H1 Q
/-- ints in, under C, and a value out -/
def rI (C : Int → Int → Prop) (g : Int → Int → V) : R2 := fun x y H Q => ∃ i j, x = .int i ∧ y = .int j ∧ C i j ∧ Q (g i j) H
def rI0 (g : Int → Int → V) : R2 := fun x y H Q => ∃ i j, x = .int i ∧ y = .int j ∧ Q (g i j) H
def rU (g : Int → V) : V → Hp → VK → Prop := fun x H Q => ∃ i, x = .int i ∧ Q (g i) H

section
variable {X : Cx} {a b c : Expr} {ta tb tc : TE} {pos : Pos}

theorem binT (ha : PE X a ta) (hb : PE X b tb) {pins : List (Addr × Obj)} {s : Shared} {σ : St} {H : Hp} {R : V → V → Hp → Prop} (I : Inv X pins σ H s)
    (h : ta σ H fun x H1 => tb σ H1 fun y H2 => R x y H2) {Q : Value → Shared → Prop} {f : Value → Value → Sem Value}
    (hf : ∀ v u s2 x y H2, Inv X pins σ H2 s2 → RelV x v → RelV y u → R x y H2 → wpAny (model X.prog X.w) X.A (f v u) Q X.xe s2) :
    wpAny (model X.prog X.w) X.A (eval a X.env) (fun v s₁ => wpAny (model X.prog X.w) X.A (eval b X.env) (fun u s₂ => wpAny (model X.prog X.w) X.A (f v u) Q X.xe s₂) X.xe s₁) X.xe s := by
  refine thn (ha pins s σ H _ I h) fun v s1 ⟨x, H1, I1, r1, q1⟩ => ?_
  refine thn (hb pins s1 σ H1 _ I1 q1) fun u s2 ⟨y, H2, I2, r2, q2⟩ => ?_
  exact hf v u s2 x y H2 I2 r1 r2 q2

theorem pe_op {op : Operator} {r : R2} (ho : OpR X (binaryOp op) r) (ha : PE X a ta) (hb : PE X b tb) : PE X (.BinOp a op b pos) (tOp r ta tb) := by
  intro pins s σ H Q I h
  exact wpAny_BinOp (binT ha hb I h fun v u s2 x y H2 I2 rx ry q => ho pins s2 σ H2 x y v u Q I2 rx ry q)
/-! ### ints -/
theorem opI {f : Value → Value → Sem Value} {C : Int → Int → Prop} {g : Int → Int → Int}
    (rule : ∀ (i j : Int) (t u : Tok) (s : Shared) (Q : Value → Shared → Prop) (E : Value → Shared → Prop), C i j → Q (.int (g i j) s.toks) { s with toks := s.toks + 1 } → wpAny (model X.prog X.w) X.A (f (.int i t) (.int j u)) Q E s) :
    OpR X f (rI C fun i j => .int (g i j)) := by
  intro pins s σ H x y v u Q I rx ry h
  obtain ⟨i, j, rfl, rfl, hc, q⟩ := h
  obtain ⟨t, rfl⟩ := rx
  obtain ⟨t', rfl⟩ := ry
  exact rule i j t t' s _ _ hc ⟨.int (g i j), H, I.tok _, ⟨_, rfl⟩, q⟩
theorem opI0 {f : Value → Value → Sem Value} {g : Int → Int → Int}
    (rule : ∀ (i j : Int) (t u : Tok) (s : Shared) (Q : Value → Shared → Prop) (E : Value → Shared → Prop), Q (.int (g i j) s.toks) { s with toks := s.toks + 1 } → wpAny (model X.prog X.w) X.A (f (.int i t) (.int j u)) Q E s) :
    OpR X f (rI0 fun i j => .int (g i j)) := by
  intro pins s σ H x y v u Q I rx ry h
  obtain ⟨i, j, rfl, rfl, q⟩ := h
  obtain ⟨t, rfl⟩ := rx
  obtain ⟨t', rfl⟩ := ry
  exact rule i j t t' s _ _ ⟨.int (g i j), H, I.tok _, ⟨_, rfl⟩, q⟩
theorem opB0 {f : Value → Value → Sem Value} {g : Int → Int → Bool}
    (rule : ∀ (i j : Int) (t u : Tok) (s : Shared) (Q : Value → Shared → Prop) (E : Value → Shared → Prop), Q (.bool (g i j)) s → wpAny (model X.prog X.w) X.A (f (.int i t) (.int j u)) Q E s) :
    OpR X f (rI0 fun i j => .bl (g i j)) := by
  intro pins s σ H x y v u Q I rx ry h
  obtain ⟨i, j, rfl, rfl, q⟩ := h
  obtain ⟨t, rfl⟩ := rx
  obtain ⟨t', rfl⟩ := ry
  exact rule i j t t' s _ _ ⟨.bl (g i j), H, I, rfl, q⟩

def CDiv (i j : Int) : Prop := 0 < j ∧ j < 1073741824
def CDivN (i j : Int) : Prop := j ≠ 0 ∧ j.natAbs < 1073741824
def CPow (i j : Int) : Prop := 0 ≤ j ∧ j ≤ 1000000 ∧ i.natAbs < 2 ^ 64
def CMul (i j : Int) : Prop := (-(2 ^ 64) < i ∧ i < 2 ^ 64) ∨ (-(2 ^ 64) < j ∧ j < 2 ^ 64)
theorem CMul.ok {i j : Int} (h : CMul i j) : IntMulOk i j := by
  rcases h with ⟨h1, h2⟩ | ⟨h1, h2⟩
  · exact .of_left (intBits_le_64 h1 h2)
  · exact .of_right (intBits_le_64 h1 h2)
theorem op_add : OpR X (binaryOp .Add) (rI0 fun i j => .int (i + j)) := opI0 fun _ _ _ _ _ _ _ q => add_int q
theorem op_sub : OpR X (binaryOp .Sub) (rI0 fun i j => .int (i - j)) := opI0 fun _ _ _ _ _ _ _ q => sub_int q
theorem op_mul : OpR X (binaryOp .Mult) (rI CMul fun i j => .int (i * j)) := opI fun _ _ _ _ _ _ _ hc q => mul_int q hc.ok
/-- // by a positive divisor -/
theorem op_fdiv : OpR X (binaryOp .FloorDiv) (rI CDiv fun i j => .int (i / j)) := opI fun i j _ _ _ _ _ hc q => by
  have h1 : (0 : Int) < j := hc.1
  have h2 : j < 1073741824 := hc.2
  exact floordiv_int (by omega) (by rw [Int.fdiv_eq_ediv_of_nonneg i (by omega)]; exact q) (.inl (PyProof.noPylong_small (by omega)))
/-- % by a positive divisor of any size -/
theorem op_mod : OpR X (binaryOp .Mod) (rI (fun _ j => 0 < j) fun i j => .int (i % j)) := opI fun i j _ _ _ _ _ hc q => by
  have h1 : (0 : Int) < j := hc
  exact mod_int' (by omega) (by rw [Int.fmod_eq_emod_of_nonneg i (by omega)]; exact q)
theorem op_pow : OpR X (binaryOp .Pow) (rI CPow fun i j => .int (i ^ j.toNat)) := opI fun _ _ _ _ _ _ _ hc q => pow_int_small hc.1 hc.2.1 hc.2.2 q
/-! ### bools among ints: n += (a < b) -/
end

/-! ### comparisons -/
/-- the scalars that == tells apart as data does -/
def scal : V → V → Bool
  | .non, .non => true | .non, .int _ => true | .int _, .non => true | .non, .bl _ => true | .bl _, .non => true | .non, .str _ => true | .str _, .non => true
  | .int _, .int _ => true | .bl _, .bl _ => true | .str _, .str _ => true | .byt _, .byt _ => true
  | .int _, .str _ => true | .str _, .int _ => true | .bl _, .str _ => true | .str _, .bl _ => true
  | _, _ => false
def rEq : R2 := fun x y H Q => scal x y = true ∧ Q (.bl (decide (x = y))) H
def rNe : R2 := fun x y H Q => scal x y = true ∧ Q (.bl (!decide (x = y))) H

section
variable {X : Cx} {a b c : Expr} {ta tb tc : TE} {pos : Pos}
theorem fin_bl {pins : List (Addr × Obj)} {σ : St} {H : Hp} {s : Shared} {Q : VK} {k k' : Bool} (I : Inv X pins σ H s) (q : Q (.bl k) H) (e : k = k') : EP X pins σ Q (.bool k') s := by
  subst e
  exact ⟨.bl k, H, I, rfl, q⟩
theorem op_lt : OpR X (compareOp .Lt) (rI0 fun i j => .bl (decide (i < j))) := opB0 fun _ _ _ _ _ _ _ q => lt_int q
theorem op_le : OpR X (compareOp .LtE) (rI0 fun i j => .bl (decide (i ≤ j))) := opB0 fun _ _ _ _ _ _ _ q => le_int q
theorem op_gt : OpR X (compareOp .Gt) (rI0 fun i j => .bl (decide (j < i))) := opB0 fun _ _ _ _ _ _ _ q => gt_int q
theorem op_ge : OpR X (compareOp .GtE) (rI0 fun i j => .bl (decide (j ≤ i))) := opB0 fun _ _ _ _ _ _ _ q => ge_int q
/-- the one string within the other -/
theorem op_in_str : OpR X (compareOp .In) (fun x y H Q => ∃ i j, x = .str i ∧ y = .str j ∧ Q (.bl (!(Builtin.Str.occurrences j i 0 j.length 1).isEmpty)) H) := by
  intro pins s σ H x y v u Q I rx ry h
  obtain ⟨i, j, rfl, rfl, q⟩ := h
  obtain ⟨t, rfl⟩ := rx
  obtain ⟨t', rfl⟩ := ry
  exact in_str (fin_bl I q rfl)

/-- is None, is not None: the right side a value none -/
theorem op_isN : OpR X (compareOp .Is) (fun x y H Q => y = .non ∧ Q (.bl (decide (x = .non))) H) := by
  intro pins s σ H x y v u Q I rx ry h
  obtain ⟨rfl, q⟩ := h
  cases ry
  refine is_none_gen (fin_bl I q ?_)
  cases x <;> first
    | (cases rx; rfl)
    | (obtain ⟨t, rfl⟩ := rx; rfl)
theorem op_notN : OpR X (compareOp .IsNot) (fun x y H Q => y = .non ∧ Q (.bl (!decide (x = .non))) H) := by
  intro pins s σ H x y v u Q I rx ry h
  obtain ⟨rfl, q⟩ := h
  cases ry
  refine isnot_none_gen (fin_bl I q ?_)
  cases x <;> first
    | (cases rx; rfl)
    | (obtain ⟨t, rfl⟩ := rx; rfl)

theorem op_notin_str : OpR X (compareOp .NotIn) (fun x y H Q => ∃ i j, x = .str i ∧ y = .str j ∧ Q (.bl (!(!(Builtin.Str.occurrences j i 0 j.length 1).isEmpty))) H) := by
  intro pins s σ H x y v u Q I rx ry h
  obtain ⟨i, j, rfl, rfl, q⟩ := h
  obtain ⟨t, rfl⟩ := rx
  obtain ⟨t', rfl⟩ := ry
  exact notIn_str (fin_bl I q rfl)
/-- is, is not of two objects that are tracked lists or instances -/
def isObj : HO → Bool
  | .lst _ => true
  | .ins _ _ _ => true
  | _ => false
/-- two rules for one operation: by cases -/
theorem OpR.or {f : Value → Value → Sem Value} {r r' : R2} (h : OpR X f r) (h' : OpR X f r') : OpR X f (fun x y H Q => r x y H Q ∨ r' x y H Q) := by
  intro pins s σ H x y v u Q I rx ry q
  rcases q with q | q
  · exact h pins s σ H x y v u Q I rx ry q
  · exact h' pins s σ H x y v u Q I rx ry q

theorem nomark (b : Expr) {op : CmpOp} (h : op ≠ .In := by decide) (h2 : op ≠ .NotIn := by decide) : behindInMarks op b = false := by
  have e1 : (op == CmpOp.In) = false := by cases op <;> first | rfl | exact absurd rfl h
  have e2 : (op == CmpOp.NotIn) = false := by cases op <;> first | rfl | exact absurd rfl h2
  cases b <;> simp [behindInMarks, e1, e2]
/-- a comparison as a value; hm: nomark b, or (for in, not in) by with_unfolding_all rfl -/
theorem pe_cmpR {op : CmpOp} {r : R2} (ho : OpR X (compareOp op) r) (ha : PE X a ta) (hb : PE X b tb) (hm : behindInMarks op b = false) : PE X (.Compare a [op] [b] pos) (tOp r ta tb) := by
  intro pins s σ H Q I h
  exact wpAny_Compare1 (binT ha hb I h fun v u s2 x y H2 I2 rx ry q => ho pins s2 σ H2 x y v u Q I2 rx ry q) hm
/-- a reading of a value as a test -/
def tTest (t : TE) : TT := fun σ H Q => t σ H fun x H' => ∃ k, x = .bl k ∧ Q k H'
theorem pt_cmpR {op : CmpOp} {r : R2} (ho : OpR X (compareOp op) r) (ha : PE X a ta) (hb : PE X b tb) (hm : behindInMarks op b = false) : PT X (.Compare a [op] [b] pos) (tTest (tOp r ta tb)) := by
  intro pins s σ H Q I h
  refine wpAny_isTrue_Compare1 (thn (ha pins s σ H _ I h) fun v s1 ⟨x, H1, I1, r1, q1⟩ => thn (hb pins s1 σ H1 _ I1 q1) fun u s2 ⟨y, H2, I2, r2, q2⟩ =>
    thn (ho pins s2 σ H2 x y v u _ I2 r1 r2 q2) fun c s3 ⟨z, H3, I3, r3, k, e, q3⟩ => ?_) hm
  subst e
  cases r3
  exact wpAny_truthy_bool ⟨H3, I3, q3⟩
/-- a op1 b op2 c -/
def tChain (r r' : R2) (ta tb tc : TE) : TE := fun σ H Q => ta σ H fun x H1 => tb σ H1 fun y H2 => r x y H2 fun z H3 => ∃ k, z = .bl k ∧
  (if k = true then tc σ H3 fun w' H4 => r' y w' H4 Q else Q (.bl false) H3)
theorem pe_chain {op op' : CmpOp} {r r' : R2} (ho : OpR X (compareOp op) r) (ho' : OpR X (compareOp op') r') (ha : PE X a ta) (hb : PE X b tb) (hc : PE X c tc)
    (hm : lastMarks [op, op'] [b, c] = false := by with_unfolding_all rfl) : PE X (.Compare a [op, op'] [b, c] pos) (tChain r r' ta tb tc) := by
  intro pins s σ H Q I h
  refine Compare_chain (thn (ha pins s σ H _ I h) fun v s1 ⟨x, H1, I1, r1, q1⟩ => chain_link (thn (hb pins s1 σ H1 _ I1 q1) fun u s2 ⟨y, H2, I2, r2, q2⟩ =>
    thn (ho pins s2 σ H2 x y v u _ I2 r1 r2 q2) fun d s3 ⟨z, H3, I3, r3, k, e, q3⟩ => ?_)) hm
  subst e
  cases r3
  refine wpAny_truthy_bool ?_
  cases k with
  | false => exact ite_ff ⟨.bl false, H3, I3, rfl, q3⟩
  | true => exact ite_tt (chain_last (thn (hc pins s3 σ H3 _ I3 q3) fun w' s4 ⟨z', H4, I4, r4, q4⟩ => ho' pins s4 σ H4 y z' u w' Q I4 r2 r4 q4))
theorem pt_chain {op op' : CmpOp} {r r' : R2} (ho : OpR X (compareOp op) r) (ho' : OpR X (compareOp op') r') (ha : PE X a ta) (hb : PE X b tb) (hc : PE X c tc)
    (hm : lastMarks [op, op'] [b, c] = false := by with_unfolding_all rfl) : PT X (.Compare a [op, op'] [b, c] pos) (tTest (tChain r r' ta tb tc)) := by
  intro pins s σ H Q I h
  refine isTrue_chain (thn (ha pins s σ H _ I h) fun v s1 ⟨x, H1, I1, r1, q1⟩ => test_link (thn (hb pins s1 σ H1 _ I1 q1) fun u s2 ⟨y, H2, I2, r2, q2⟩ =>
    thn (ho pins s2 σ H2 x y v u _ I2 r1 r2 q2) fun d s3 ⟨z, H3, I3, r3, k, e, q3⟩ => ?_)) hm
  subst e
  cases r3
  refine wpAny_truthy_bool ?_
  cases k with
  | false =>
    obtain ⟨k', e', q'⟩ := q3
    cases e'
    exact ite_ff ⟨H3, I3, q'⟩
  | true =>
    refine ite_tt (test_last (thn (hc pins s3 σ H3 _ I3 q3) fun w' s4 ⟨z', H4, I4, r4, q4⟩ => thn (ho' pins s4 σ H4 y z' u w' _ I4 r2 r4 q4) fun d' s5 ⟨z2, H5, I5, r5, k2, e2, q5⟩ => ?_))
    subst e2
    cases r5
    exact wpAny_truthy_bool ⟨H5, I5, q5⟩

/-! ### truth -/
/-- a value's truth by the abstract heap -/
def TruV (K : PySem.W.Frag) (x : V) (H : Hp) (k : Bool) : Prop :=
  match x with
  | .non => k = false
  | .bl b => k = b
  | .int i => k = (i != 0)
  | .str y => y.length ≤ sizeLine ∧ k = ((y.length : Int) != 0)
  | .byt y => y.size ≤ sizeLine ∧ k = ((y.size : Int) != 0)
  | .ref p => (∃ xs, SqL K H p xs ∧ k = !xs.isEmpty) ∨ (∃ xs, SqT K H p xs ∧ k = !xs.isEmpty) ∨ ∃ kvs, H p = some (.dK kvs) ∧ k = !kvs.isEmpty
  | _ => False
theorem isEmpty_kv {κ : Type} {kvs : List (κ × V)} {vs : List (κ × Value)} (r : KV kvs vs) : (!vs.isEmpty) = !kvs.isEmpty := by
  cases r <;> rfl
theorem isEmpty_of {xs : List V} {its : List Value} (r : Vals xs its) : (!its.toArray.isEmpty) = !xs.isEmpty := by
  cases r <;> simp
theorem line63 : (sizeLine : Nat) < 2 ^ 63 := by rw [sizeLine_eq]; decide
theorem tru_ok : TruR X (fun x H Q => ∃ k, TruV X.K x H k ∧ Q k H) := by
  intro pins s σ H x v Q I rx h
  obtain ⟨k, e, q⟩ := h
  have hl := line63
  have hs : sizeLine = 16777216 := sizeLine_eq
  cases x with
  | non =>
    cases rx
    have e' : k = false := e
    subst e'
    exact truthy_none ⟨H, I, q⟩
  | bl b =>
    cases rx
    have e' : k = b := e
    subst e'
    exact wpAny_truthy_bool ⟨H, I, q⟩
  | int i =>
    obtain ⟨t, rfl⟩ := rx
    have e' : k = (i != 0) := e
    subst e'
    exact PySem.P.truthy_int ⟨H, I, q⟩
  | str y =>
    obtain ⟨t, rfl⟩ := rx
    obtain ⟨hy, e'⟩ : y.length ≤ sizeLine ∧ k = ((y.length : Int) != 0) := e
    subst e'
    exact PySem.P.truthy_str (by omega) ⟨H, I.tok _, q⟩
  | byt y =>
    obtain ⟨t, rfl⟩ := rx
    obtain ⟨hy, e'⟩ : y.size ≤ sizeLine ∧ k = ((y.size : Int) != 0) := e
    subst e'
    exact PySem.W.truthy_bytes (by omega) ⟨H, I.tok _, q⟩
  | ref p =>
    cases rx
    have e' : (∃ xs, SqL X.K H p xs ∧ k = !xs.isEmpty) ∨ (∃ xs, SqT X.K H p xs ∧ k = !xs.isEmpty) ∨ ∃ kvs, H p = some (.dK kvs) ∧ k = !kvs.isEmpty := e
    rcases e' with ⟨xs, hx, e'⟩ | ⟨xs, hx, e'⟩ | ⟨kvs, hx, e'⟩
    · subst e'
      obtain ⟨its, r, pl, hz⟩ := I.list hx
      have hlen := r.length
      exact wpAny_truthy_list pl.isList (by simp only [List.size_toArray]; omega) ⟨H, I.tok _, by rw [isEmpty_of r]; exact q⟩
    · subst e'
      obtain ⟨its, r, pl, hz⟩ := I.tuple hx
      have hlen := r.length
      exact truthy_tuple pl (by simp only [List.size_toArray]; omega) ⟨H, I.tok _, by rw [isEmpty_of r]; exact q⟩
    · subst e'
      obtain ⟨hz, hS, vs, r, m⟩ : kvs.length ≤ sizeLine ∧ (p == sysModules) = false ∧ ∃ vs, KV kvs vs ∧ s.heap.DictOf (mixKind X.prog X.w) p vs := I.hok p _ hx
      have hlen : kvs.length = vs.length := Paired.length r
      exact wpAny_truthy_dict hS m (by omega) ⟨H, I.tok _, by rw [isEmpty_kv r]; exact q⟩
  | _ => exact (show False from e).elim
/-- any expression whose test is its value's truth (a name, a call, a subscript, a field ..: he by fun _ => rfl) -/
theorem pt_truth (ha : PE X a ta) (he : ∀ whole, isTrue a X.env whole = (do let v ← whole; standAt a.pos; holding [v] (truthy v))) :
    PT X a (fun σ H Q => ta σ H fun x H' => ∃ k, TruV X.K x H' k ∧ Q k H') := by
  intro pins s σ H Q I h
  exact isTrue_plain (thn (ha pins s σ H _ I h) fun v s1 ⟨x, H1, I1, r1, q1⟩ => tru_ok pins s1 σ H1 x v Q I1 r1 q1) (he _)

/-! ### strs and bytes -/
theorem op_add_str : OpR X (binaryOp .Add) (fun x y H Q => ∃ i j, x = .str i ∧ y = .str j ∧ i.length + j.length ≤ sizeLine ∧ Q (.str (i ++ j)) H) := by
  intro pins s σ H x y v u Q I rx ry h
  obtain ⟨i, j, rfl, rfl, hz, q⟩ := h
  obtain ⟨t, rfl⟩ := rx
  obtain ⟨t', rfl⟩ := ry
  exact add_str (fun t' tk => ⟨.str (i ++ j), H, I.tok _, ⟨_, rfl⟩, q⟩) hz
def PlainIxT (b : Expr) : Prop := ∀ o i, subscripted b false o i = operate [o, i] (getItem o i)
/-! ### scalar builtins, by CallR -/
theorem vals1 {x : V} {us : List Value} (r : Vals [x] us) : ∃ u, us = [u] ∧ RelV x u := by
  cases r with
  | cons r1 r2 => cases r2; exact ⟨_, rfl, r1⟩
theorem vals2 {x y : V} {us : List Value} (r : Vals [x, y] us) : ∃ u w', us = [u, w'] ∧ RelV x u ∧ RelV y w' := by
  cases r with
  | cons r1 r2 =>
    cases r2 with
    | cons r3 r4 => cases r4; exact ⟨_, _, rfl, r1, r3⟩
theorem call_abs : CallR X (.builtin "abs") (fun xs H Q => ∃ i, xs = [.int i] ∧ Q (.int (if i < 0 then -i else i)) H) := by
  intro pins s σ H xs us Q I r h
  obtain ⟨i, rfl, q⟩ := h
  obtain ⟨u, rfl, t, rfl⟩ := vals1 r
  exact call_abs_int fun u tk => ⟨.int (if i < 0 then -i else i), H, I.tok _, ⟨_, rfl⟩, q⟩
theorem call_min2 (hc : X.calm = true) : CallR X (.builtin "min") (fun xs H Q => ∃ i j, xs = [.int i, .int j] ∧ Q (.int (if j < i then j else i)) H) := by
  intro pins s σ H xs us Q I r h
  obtain ⟨i, j, rfl, q⟩ := h
  obtain ⟨u, w', rfl, ⟨t, rfl⟩, ⟨t', rfl⟩⟩ := vals2 r
  refine min_two_ints (I.ok.hd hc) fun h' tk k => ⟨_, H, I.kept k, ?_, q⟩
  by_cases hj : j < i
  · rw [if_pos hj, if_pos hj]; exact ⟨_, rfl⟩
  · rw [if_neg hj, if_neg hj]; exact ⟨_, rfl⟩
theorem call_int1 : CallR X (.type "int") (fun xs H Q => (∃ i, xs = [.int i] ∧ Q (.int i) H) ∨ ∃ k, xs = [.bl k] ∧ Q (.int (if k then 1 else 0)) H) := by
  intro pins s σ H xs us Q I r h
  rcases h with ⟨i, rfl, q⟩ | ⟨k, rfl, q⟩
  · obtain ⟨u, rfl, t, rfl⟩ := vals1 r
    exact call_int_int ⟨.int i, H, I, ⟨_, rfl⟩, q⟩
  · obtain ⟨u, rfl, r1⟩ := vals1 r
    cases r1
    exact call_int_bool ⟨.int (if k then 1 else 0), H, I.tok _, ⟨_, rfl⟩, q⟩
theorem call_str_int : CallR X (.type "str") (fun xs H Q => ∃ i, xs = [.int i] ∧ i.natAbs.log2 < 1920 ∧ Q (.str (toString i)) H) := by
  intro pins s σ H xs us Q I r h
  obtain ⟨i, rfl, hz, q⟩ := h
  obtain ⟨u, rfl, t, rfl⟩ := vals1 r
  exact PySem.P.str_of_int hz ⟨.str _, H, I.tok _, ⟨_, rfl⟩, q⟩
/-- len of a str, a bytes, a list, a tuple -/
def LenV (K : PySem.W.Frag) (x : V) (H : Hp) (n : Nat) : Prop :=
  match x with
  | .str y => y.length ≤ sizeLine ∧ n = y.length
  | .byt y => y.size ≤ sizeLine ∧ n = y.size
  | .ref p => (∃ xs, SqL K H p xs ∧ n = xs.length) ∨ ∃ xs, SqT K H p xs ∧ n = xs.length
  | _ => False
theorem call_len : CallR X (.builtin "len") (fun xs H Q => ∃ x n, xs = [x] ∧ LenV X.K x H n ∧ Q (.int n) H) := by
  intro pins s σ H xs us Q I r h
  obtain ⟨x, n, rfl, e, q⟩ := h
  obtain ⟨u, rfl, rx⟩ := vals1 r
  have hl := line63
  have hs : sizeLine = 16777216 := sizeLine_eq
  cases x with
  | str y =>
    obtain ⟨t, rfl⟩ := rx
    obtain ⟨hy, e'⟩ : y.length ≤ sizeLine ∧ n = y.length := e
    subst e'
    exact len_str (by omega) ⟨.int _, H, I.tok _, ⟨_, rfl⟩, q⟩
  | byt y =>
    obtain ⟨t, rfl⟩ := rx
    obtain ⟨hy, e'⟩ : y.size ≤ sizeLine ∧ n = y.size := e
    subst e'
    exact PySem.W.len_bytes (by omega) ⟨.int _, H, I.tok _, ⟨_, rfl⟩, q⟩
  | ref p =>
    cases rx
    have e' : (∃ xs, SqL X.K H p xs ∧ n = xs.length) ∨ ∃ xs, SqT X.K H p xs ∧ n = xs.length := e
    rcases e' with ⟨xs, hx, e'⟩ | ⟨xs, hx, e'⟩
    · subst e'
      obtain ⟨its, r', pl, hz⟩ := I.list hx
      have hlen := r'.length
      exact Calls.call_len_list pl.isList (by simp only [List.size_toArray]; omega) ⟨.int xs.length, H, I.tok _, ⟨_, by simp only [List.size_toArray]; rw [hlen]⟩, q⟩
    · subst e'
      obtain ⟨its, r', pl, hz⟩ := I.tuple hx
      have hlen := r'.length
      exact len_tuple pl (by simp only [List.size_toArray]; omega) ⟨.int xs.length, H, I.tok _, ⟨_, by simp only [List.size_toArray]; rw [hlen]⟩, q⟩
  | _ => exact (show False from e).elim
end
end L2

namespace L2
open PySem PySem.Spec PyProof.Rows

/-! ### an instance, its attributes a map -/
structure ObjM (h : Heap) (x dx C : Addr) (mA : Str → Option Value) : Prop where
  obj : h.get? x = some (PySem.W.instObj C dx)
  ns : h.Ns1 dx mA
  ne : dx ≠ x

theorem lookIn_ns {h : Heap} {dx : Addr} {mA : Str → Option Value} (n : h.Ns1 dx mA) : ∃ od, h.get? dx = some od ∧ ∀ name, PySem.W.lookIn name od = some (mA name) := by
  obtain ⟨o, es, ep, ho, hd, hk, _, hm⟩ := n
  refine ⟨o, ho, fun name => ?_⟩
  have e := hm name
  unfold nsFind findBy at e
  rw [← Array.find?_toList] at e
  unfold PySem.W.lookIn
  rw [hd]
  dsimp only
  split
  · rename_i y q
    rw [q] at e
    exact congrArg some e
  · rename_i q
    rw [q] at e
    have a : es.toList.any (·.refKey) = false := by
      rw [List.any_eq_false]
      intro y hy
      obtain ⟨z, t, hkey⟩ := hk y (Array.mem_toList_iff.mp hy)
      simp [DictEntry.refKey, hkey]
    have a' : ¬ es.toList.any (·.refKey) = true := by rw [a]; exact Bool.false_ne_true
    rw [if_neg a']
    exact congrArg some e

theorem ObjM.look {h : Heap} {x dx C : Addr} {mA : Str → Option Value} (I : ObjM h x dx C mA) : ∃ od, PySem.W.InstAt h x (PySem.W.instObj C dx) C (some od) ∧ ∀ name, PySem.W.lookIn name od = some (mA name) :=
  let ⟨od, ho, hl⟩ := lookIn_ns I.ns
  ⟨od, ⟨I.obj, rfl, rfl, ho⟩, hl⟩

section
variable {prog : Program} {w : World} {A : Around} {E : Value → Shared → Prop} {s : Shared} {K : PySem.W.Frag} {x dx C f : Addr} {mA : Str → Option Value} {name : Str} {v : Value}

end

/-! ### the attributes as a list of pairs -/
def putF (f : Str) (v : V) : List (Str × V) → List (Str × V)
  | [] => [(f, v)]
  | (g, x) :: r => if g = f then (g, v) :: r else (g, x) :: putF f v r
section
variable {P : Program} {w : World} {H H' : Hp} {h h' : Heap} {a C dx : Addr} {fs fs' : List (Str × V)}
theorem ins_get (hok : HOk P w H h) (e : H a = some (.ins C dx fs)) : ∃ mA, ObjM h a dx C mA ∧ (∀ f, RelO (fs.lookup f) (mA f)) ∧ PySem.Within mA (fs.map (·.1)) ∧ fs.length ≤ 1000 ∧ H dx = some (.own a) := by
  obtain ⟨d, z, ne, ob, mA, n, r, q⟩ := (show ObjOk P w H h a (.ins C dx fs) from hok a _ e)
  exact ⟨mA, ⟨ob, n, ne⟩, r, q, z, d⟩
end

/-! ### what of the text a class must have -/
structure Cls (K : PySem.W.Frag) (C : Addr) : Prop where
  pg : PySem.W.plainGet K C Str.empty = true
  hd : PySem.W.hasDictIn K C = true
  po : PySem.W.plainOver K C = true
  sa : PySem.W.findIn K (.ref C) "__setattr__" = some (some (.builtin "object.__setattr__"))
theorem Cls.get {K : PySem.W.Frag} {C : Addr} (c : Cls K C) (f : Str) : PySem.W.plainGet K C f = true := c.pg
/-- no class of it has the name -/
def NoAttr (K : PySem.W.Frag) (C : Addr) (f : Str) : Prop := PySem.W.findIn K (.ref C) f = some none
/-- a constant of the class -/
structure Con (K : PySem.W.Frag) (C : Addr) (f : Str) (v : V) (u : Value) : Prop where
  at_ : PySem.W.findIn K (.ref C) f = some (some u)
  rel : RelV v u
  get : PySem.W.specialIn K u "__get__" = some none
  cp : PySem.W.copiedNames.contains f = false
/-- a method: a plain def of the class or of one above it -/
structure Meth (K : PySem.W.Frag) (C : Addr) (m : Str) (f : Addr) : Prop where
  at_ : PySem.W.findIn K (.ref C) m = some (some (.ref f))
  fn : PySem.W.isFn K (.ref f) = true
  kp : PySem.W.keepIn K (.ref f) = true

section
variable {X : Cx} {pins : List (Addr × Obj)} {σ : St} {H : Hp} {s : Shared} {a C dx : Addr} {fs : List (Str × V)} {f : Str} {v : V} {A : Around} {E : Value → Shared → Prop}

end

/-! ### readings and rules -/
/-- e.f, an attribute of the instance -/
def tFld (K : PySem.W.Frag) (ta : TE) (f : Str) : TE := fun σ H Q => ta σ H fun x H1 => ∃ a C dx fs v, x = .ref a ∧ H1 a = some (.ins C dx fs) ∧ Cls K C ∧ NoAttr K C f ∧ fs.lookup f = some v ∧ Q v H1
/-- e.f, a constant of the class -/
def tCon (K : PySem.W.Frag) (ta : TE) (f : Str) : TE := fun σ H Q => ta σ H fun x H1 => ∃ a C dx fs v u, x = .ref a ∧ H1 a = some (.ins C dx fs) ∧ Cls K C ∧ Con K C f v u ∧ fs.lookup f = none ∧ Q v H1
/-- e.f = value -/
def sFld (K : PySem.W.Frag) (ta tv : TE) (f : Str) : TS := fun D σ H => tv σ H fun y H1 => ta σ H1 fun x H2 => ∃ a C dx fs, x = .ref a ∧ H2 a = some (.ins C dx fs) ∧ Cls K C ∧ NoAttr K C f ∧ fs.length < 1000 ∧
  D.nx σ (upd H2 a (.ins C dx (putF f y fs)))
/-- an augmented operator on two values -/
def InOp (X : Cx) (op : Operator) (rd : V → V → Hp → VK → Prop) : Prop :=
  ∀ (pins : List (Addr × Obj)) (s : Shared) (σ : St) (H : Hp) (x y : V) (u v : Value) (Q : VK), Inv X pins σ H s → RelV x u → RelV y v → rd x y H Q → wpAny (model X.prog X.w) X.A (inplaceOp op u v) (EP X pins σ Q) X.xe s
/-- e.f op= value -/
def sFldAug (K : PySem.W.Frag) (ta tv : TE) (rd : V → V → Hp → VK → Prop) (f : Str) : TS := fun D σ H => ta σ H fun x H1 => ∃ a C dx fs v, x = .ref a ∧ H1 a = some (.ins C dx fs) ∧ Cls K C ∧ NoAttr K C f ∧ fs.lookup f = some v ∧
  tv σ H1 fun y H2 => rd v y H2 fun z H3 => ∃ dx' fs', H3 a = some (.ins C dx' fs') ∧ fs'.length < 1000 ∧ D.nx σ (upd H3 a (.ins C dx' (putF f z fs')))

section
variable {X : Cx} {o e value : Expr} {f : Str} {pos pos' tpos : Pos} {ta tv : TE}
def rAdd : V → V → Hp → VK → Prop := fun x y H Q => ∃ i j, x = .int i ∧ y = .int j ∧ Q (.int (i + j)) H
def rSub : V → V → Hp → VK → Prop := fun x y H Q => ∃ i j, x = .int i ∧ y = .int j ∧ Q (.int (i - j)) H
end

/-! ### isinstance -/
section
variable {X : Cx} {pins : List (Addr × Obj)} {σ : St} {H : Hp} {s : Shared} {A : Around} {E : Value → Shared → Prop} {Q : Value → Shared → Prop} {c : Value} {b : Bool}
/-- the type of a value, as the fragment's deciders take it; for an instance its class -/
inductive TyOf (K : PySem.W.Frag) (H : Hp) : V → Value → Prop where
  | non : TyOf K H .non (.type "NoneType")
  | bl (x : Bool) : TyOf K H (.bl x) (.type "bool")
  | int (i : Int) : TyOf K H (.int i) (.type "int")
  | str (x : Str) : TyOf K H (.str x) (.type "str")
  | flt (x : UInt64) : TyOf K H (.flt x) (.type "float")
  | lst {a : Addr} {xs : List V} (e : H a = some (.lst xs)) : TyOf K H (.ref a) (.type "list")
  | frz {a : Addr} {o : Obj} {xs : List V} (e : H a = some (.frz o (.lst xs))) : TyOf K H (.ref a) (.type "list")
  | tup {a : Addr} {xs : List V} (e : H a = some (.tup xs)) : TyOf K H (.ref a) (.type "tuple")
  | dK {a : Addr} {kvs : List (Key × V)} (e : H a = some (.dK kvs)) : TyOf K H (.ref a) (.type "dict")
  | dT {a : Addr} {kvs : List (List Key × V)} (e : H a = some (.dT kvs)) : TyOf K H (.ref a) (.type "dict")
  | ins {a C dx : Addr} {fs : List (Str × V)} (e : H a = some (.ins C dx fs)) (cl : Cls K C) (ha : PySem.W.findIn K (.ref C) "__class__" = some (some (.builtin "object.__class__")))
      (hn : PySem.W.specialIn K (.builtin "object.__class__") "__get__" = some (some (.builtin "getset_descriptor.__get__"))) (htk : PySem.W.takesIn K (.builtin "object.__class__") = some true)
      (hm : PySem.W.mroIn K C (.type "object") = some true) : TyOf K H (.ref a) (.ref C)
/-- isinstance(x, c) for one class c, a built-in or an own one: kitOne's answer -/
theorem isinst_ok {x : V} {u t : Value} (I : Inv X pins σ H s) (rx : RelV x u) (ty : TyOf X.K H x t) (e : PySem.W.kitOne X.K t c = some b) (h : ∀ tk, Q (.bool b) { s with toks := tk }) :
    wpAny (model X.prog X.w) A (call (.builtin "isinstance") [u, c]) Q E s := by
  cases ty with
  | non => cases (show u = Value.none from rx); exact PySem.W.kia_one PySem.W.kitx_none I.kIn True.intro e (fun z => nomatch z) h
  | bl y => cases (show u = Value.bool y from rx); exact PySem.W.kia_one PySem.W.kitx_bool I.kIn True.intro e (fun z => nomatch z) h
  | int i => obtain ⟨t, q⟩ := (show ∃ t, u = Value.int i t from rx); cases q; exact PySem.W.kia_one PySem.W.kitx_int I.kIn True.intro e (fun z => nomatch z) h
  | str y => obtain ⟨t, q⟩ := (show ∃ t, u = Value.str y t from rx); cases q; exact PySem.W.kia_one PySem.W.kitx_str I.kIn True.intro e (fun z => nomatch z) h
  | flt y => obtain ⟨t, q⟩ := (show ∃ t, u = Value.float y t from rx); cases q; exact PySem.W.kia_one PySem.W.kitx_float I.kIn True.intro e (fun z => nomatch z) h
  | @lst a xs ea =>
    cases (show u = Value.ref a from rx)
    obtain ⟨_, _, n, _, h1⟩ := (show ObjOk X.prog X.w H s.heap a (.lst xs) from I.hok a _ ea)
    exact PySem.W.kia_one PySem.W.kitx_list I.kIn ⟨_, h1, rfl⟩ e (fun z => nomatch z) h
  | @frz a ob xs ea =>
    cases (show u = Value.ref a from rx)
    obtain ⟨_, _, _, n, _, h1⟩ := (show ObjOk X.prog X.w H s.heap a (.frz ob (.lst xs)) from I.hok a _ ea)
    exact PySem.W.kia_one PySem.W.kitx_list I.kIn ⟨_, h1, rfl⟩ e (fun z => nomatch z) h
  | @tup a xs ea =>
    cases (show u = Value.ref a from rx)
    obtain ⟨_, _, _, p⟩ := (show ObjOk X.prog X.w H s.heap a (.tup xs) from I.hok a _ ea)
    obtain ⟨o, h1, h2, _⟩ := p
    exact PySem.W.kia_one PySem.W.kitx_tuple I.kIn ⟨o, h1, h2⟩ e (fun z => nomatch z) h
  | @dK a kvs ea =>
    cases (show u = Value.ref a from rx)
    obtain ⟨_, _, vs, _, p⟩ := (show ObjOk X.prog X.w H s.heap a (.dK kvs) from I.hok a _ ea)
    obtain ⟨o, es, ep, h1, h2, _⟩ := p
    exact PySem.W.kia_one PySem.W.kitx_dict I.kIn ⟨o, h1, h2.1⟩ e (fun z => nomatch z) h
  | @dT a kvs ea =>
    cases (show u = Value.ref a from rx)
    obtain ⟨_, _, xs, _, o, es, ep, h1, h2, _⟩ := (show ObjOk X.prog X.w H s.heap a (.dT kvs) from I.hok a _ ea)
    exact PySem.W.kia_one PySem.W.kitx_dict I.kIn ⟨o, h1, h2.1⟩ e (fun z => nomatch z) h
  | @ins a C dx fs ea cl ha hn htk hm =>
    cases (show u = Value.ref a from rx)
    obtain ⟨mA, O, _⟩ := ins_get I.hok ea
    obtain ⟨od, J, _⟩ := O.look
    exact PySem.W.kia_one (PySem.W.kitx_own (cl.get _) cl.hd ha hn htk hm) I.kIn J e (fun z => nomatch z) h
end
end L2

namespace L2
open PySem PySem.Spec PyProof.Rows

/-! ### room -/
structure Room (k : Nat) (A : Around) : Prop where
  hd : A.handled = none
  dp : A.depth + 3 * k + 5 < recursionLimit
  un : A.units + 16 * k + 200 < cLine
theorem Room.mono {j k : Nat} {A : Around} (r : Room k A) (h : j ≤ k) : Room j A := ⟨r.hd, by have := r.dp; omega, by have := r.un; omega⟩
theorem Room.deeper {k : Nat} {A : Around} (r : Room (k + 1) A) (env : Env) : Room k (A.deeper env) :=
  ⟨r.hd, by have := r.dp; show A.depth + 1 + 3 * k + 5 < _; omega, by have := r.un; show A.units + 3 + 16 * k + 200 < _; omega⟩
theorem Room.depth {k : Nat} {A : Around} (r : Room k A) : A.depth < recursionLimit := by have := r.dp; omega
theorem Room.units {k : Nat} {A : Around} (r : Room k A) : A.units + 64 < cLine := by have := r.un; omega
/-! ### argument lists and displays -/
def tNil : TA := fun _ H Q => Q [] H
def tCons (ta : TE) (tr : TA) : TA := fun σ H Q => ta σ H fun x H1 => tr σ H1 fun xs H2 => Q (x :: xs) H2
section
variable {X : Cx} {e : Expr} {es : List Expr} {te : TE} {t : TA} {pos : Pos}
theorem pa_nil : PA X [] tNil := fun _ _ _ _ H Q I h => Calls.spliced_nil ⟨[], H, I, .nil, h⟩
theorem pa_cons (ha : PE X e te) (hr : PA X es t) (hs : starEach (e :: es) X.env = (false, eval e X.env) :: starEach es X.env := by rfl) : PA X (e :: es) (tCons te t) := by
  intro pos pins s σ H Q I h
  rw [hs]
  show wpAny _ _ (spliced ((false, eval e X.env) :: backTo pos (starEach es X.env))) _ _ s
  refine Calls.spliced_cons (thn (ha pins s σ H _ I h) fun u s1 ⟨x, H1, I1, r1, q1⟩ => ?_)
  exact thn (hr pos pins s1 σ H1 _ I1 q1) fun us s2 ⟨xs, H2, I2, r2, q2⟩ => ⟨x :: xs, H2, I2, .cons r1 r2, q2⟩

/-- a tuple, a list of written items -/
def tTup (t : TA) : TE := fun σ H Q => t σ H fun xs H1 => xs.length ≤ sizeLine ∧ ∀ p, H1 p = none → Q (.ref p) (upd H1 p (.tup xs))
def tLst (t : TA) : TE := fun σ H Q => t σ H fun xs H1 => xs.length ≤ sizeLine ∧ ∀ p, H1 p = none → Q (.ref p) (upd H1 p (.lst xs))
theorem pe_tup {x1} (h : PA X es t) : PE X (.Tuple es x1 pos) (tTup t) := by
  intro pins s σ H Q I hq
  refine wpAny_Tuple_spliced (thn (h pos pins s σ H _ I hq) fun us s1 ⟨xs, H1, I1, r, z, q⟩ => ⟨by rw [← r.length]; exact z, ?_⟩)
  have hf : H1 s1.heap.objs.size = none := I1.hok.fresh (Nat.le_refl _)
  refine ⟨.ref s1.heap.objs.size, upd H1 s1.heap.objs.size (.tup xs), I1.laid (t' := s1.toks) (fun b u e => Heap.get?_push_of_some _ e) (Nat.le_refl _) ?_, rfl, q _ hf⟩
  exact ⟨z, us, r, ⟨_, Heap.get?_push_size _ rfl, rfl, _, rfl⟩⟩
theorem pe_lst (h : PA X es t) : PE X (.List es pos) (tLst t) := by
  intro pins s σ H Q I hq
  refine wpAny_List_spliced (thn (h pos pins s σ H _ I hq) fun us s1 ⟨xs, H1, I1, r, z, q⟩ => ⟨by rw [← r.length]; exact z, ?_⟩)
  have hf : H1 s1.heap.objs.size = none := I1.hok.fresh (Nat.le_refl _)
  refine ⟨.ref s1.heap.objs.size, upd H1 s1.heap.objs.size (.lst xs), I1.laid (t' := s1.toks) (fun b u e => Heap.get?_push_of_some _ e) (Nat.le_refl _) ?_, rfl, q _ hf⟩
  exact ⟨z, us, 0, r, Heap.get?_push_size _ rfl⟩
end

/-! ### what a def promises -/
/-- a def's promise: the bound arguments in the parameters' order, the heap, the wanted end, the wanted exception -/
abbrev Sp := List V → Hp → VK → XK → Prop
/-- how an exception lies behind a call (file 08 gives it): the callers' frames, abstract heap and state ahead of the call, the wish, the exception, the state -/
abbrev CXT := List Env → Hp → Shared → XK → Value → Shared → Prop

/-- the state at a call -/
structure Env0 (P : Program) (w : World) (K : PySem.W.Frag) (mg : Str → Option Value) (base : Heap) (A : Around) (outer : List Env) (s : Shared) (H : Hp) : Prop where
  frames : A.frames = some outer
  mod : Mod K mg base
  bs : ∀ b o, base.get? b = some o → s.heap.get? b = some o ∧ H b = none
  bsz : base.objs.size ≤ s.heap.objs.size
  funs : s.heap.FunFrames base outer
  frf : ∀ b ∈ frs outer, H b = none
  hok : HOk P w H s.heap
  bare : AllBare s.gens
/-- a call's end -/
def CE (outer : List Env) (P : Program) (w : World) (H : Hp) (s : Shared) (Q : VK) (u : Value) (s' : Shared) : Prop :=
  ∃ v H', s'.os = s.os ∧ AllBare s'.gens ∧ Un (frs outer) [] H H' s.heap s'.heap ∧ HOk P w H' s'.heap ∧ RelV v u ∧ Q v H'
def CR (CX : CXT) (outer : List Env) (P : Program) (w : World) (H : Hp) (s : Shared) (Q : VK) (E : XK) (r : Result) (s' : Shared) : Prop :=
  match r with
  | .ok (.ret u) => CE outer P w H s Q u s'
  | .ok _ => False
  | .error e => CX outer H s E e s'
structure FnOk (P : Program) (w : World) (K : PySem.W.Frag) (mg : Str → Option Value) (base : Heap) (CX : CXT) (k : Nat) (f : Addr) (fd : FuncData) (ps : List Str) (sp : Sp) : Prop where
  len : ∀ vs H Q E, sp vs H Q E → vs.length = ps.length
  run : ∀ (A : Around) (outer : List Env) (s : Shared) (H : Hp) (args : Args) (us : List Value) (vs : List V) (Q : VK) (E : XK), Room k A → Env0 P w K mg base A outer s H → BindsTo s fd args (ps.zip us) → Vals vs us → sp vs H Q E →
    codeAny (model P w) A (.call (.ref f) args) (CR CX outer P w H s Q E) s
section
variable {X : Cx} {pins : List (Addr × Obj)} {σ : St} {H : Hp} {s s' : Shared}
/-- from a body: what a callee wants -/
theorem Inv.env0 (I : Inv X pins σ H s) : Env0 X.prog X.w X.K X.mg X.base X.A X.stack s H :=
  ⟨I.ok.frames, I.ok.mod, I.bs, Nat.le_trans I.ok.bsz I.sz, I.stack, I.stkFree, I.hok, I.bare⟩
/-- behind a call -/
theorem Inv.after {Q : VK} {u : Value} (I : Inv X pins σ H s) (h : CE X.stack X.prog X.w H s Q u s') : EP X pins σ Q u s' := by
  obtain ⟨v, H', os, bare, un, hok, r, q⟩ := h
  obtain ⟨hh, g, d, t, os'⟩ := s'
  obtain rfl : os' = s.os := os
  exact ⟨v, H', I.call (h' := hh) (g' := g) (d' := d) (t' := t) (ch := []) un hok bare (fun b z => absurd z (by simp)), r, q⟩
end

/-! ### calls -/
/-- f(..): the written arguments, then the defaults dvs; E: what is wanted of an exception -/
def tCall (sp : Sp) (dvs : List V) (E : XK) (t : TA) : TE := fun σ H Q => t σ H fun vs H1 => sp (vs ++ dvs) H1 Q E
/-- o.m(..) of an instance of the class at C -/
def tMeth (C : Addr) (m : Str) (sp : Sp) (dvs : List V) (E : XK) (ta : TE) (t : TA) : TE := fun σ H Q => ta σ H fun x H1 => ∃ a dx fs, x = .ref a ∧ H1 a = some (.ins C dx fs) ∧ fs.lookup m = none ∧
  t σ H1 fun vs H2 => sp (x :: (vs ++ dvs)) H2 Q E
/-- C(..): a new instance and its dict, then __init__ -/
def tMake (C : Addr) (sp : Sp) (dvs : List V) (E : XK) (t : TA) : TE := fun σ H Q => t σ H fun vs H1 => ∀ x dx, H1 x = none → H1 dx = none → dx ≠ x →
  sp (.ref x :: (vs ++ dvs)) (upd (upd H1 dx (.own x)) x (.ins C dx [])) (fun v H2 => v = .non ∧ Q (.ref x) H2) E

/-- how the parameters are bound: us the positional arguments, kw the keywords' values by name, ds the defaults that fill up -/
def Binds (K : PySem.W.Frag) (fd : FuncData) (ps : List Str) (ds : List Value) : Prop :=
  ∀ (s : Shared) (us : List Value), K.In s.heap → (us ++ ds).length = ps.length → BindsTo s fd ⟨us, []⟩ (ps.zip (us ++ ds))
/-- every parameter is given -/
theorem Binds.all {K : PySem.W.Frag} {fd : FuncData} {ps : List Str} (h : ∀ us : List Value, us.length = ps.length → bindArgs fd ⟨us, []⟩ = pure (ps.zip us)) : Binds K fd ps [] := fun s us _ hl => by
  rw [List.append_nil] at hl ⊢
  exact .of_eq (h us hl)

/-- an exception of a callee reaches what this body wants of exceptions -/
def Passes (CX : CXT) (X : Cx) (E : XK) : Prop := ∀ (pins : List (Addr × Obj)) (σ : St) (H : Hp) (s : Shared) (e : Value) (s' : Shared), Inv X pins σ H s → CX X.stack H s E e s' → X.xe e s'

section
variable {X : Cx} {CX : CXT} {k : Nat} {f C : Addr} {fd : FuncData} {ps : List Str} {sp : Sp} {dvs : List V} {ds : List Value} {E : XK} {x m : Str} {p pos apos : Pos} {e o : Expr} {es : List Expr} {ta : TE} {t : TA}

/-- the callee runs -/
theorem run_fn {pins : List (Addr × Obj)} {σ : St} {H : Hp} {s : Shared} {Q : VK} {us : List Value} {vs : List V} (F : FnOk X.prog X.w X.K X.mg X.base CX k f fd ps sp) (hr : Room k X.A) (hb : Binds X.K fd ps ds) (hd : Vals dvs ds) (hx : Passes CX X E)
    (I : Inv X pins σ H s) (r : Vals vs us) (h : sp (vs ++ dvs) H Q E) : wpAny (model X.prog X.w) X.A (call (.ref f) us) (EP X pins σ Q) X.xe s := by
  have r2 : Vals (vs ++ dvs) (us ++ ds) := r.append hd
  have hl : (us ++ ds).length = ps.length := by rw [← r2.length]; exact F.len _ _ _ _ h
  refine wpAny_call (codeAny_mono (F.run X.A X.stack s H ⟨us, []⟩ (us ++ ds) (vs ++ dvs) Q E hr I.env0 (hb s us I.kIn hl) r2 h) fun r s' hq => ?_)
  cases r with
  | error e => exact hx pins σ H s e s' I hq
  | ok fl =>
    cases fl with
    | ret u => exact I.after hq
    | next => exact False.elim hq
    | brk => exact False.elim hq
    | cont => exact False.elim hq

theorem pe_call (F : FnOk X.prog X.w X.K X.mg X.base CX k f fd ps sp) (hr : Room k X.A) (hg : Gl X x) (hm : X.mg x = some (.ref f)) (hk : PySem.W.keepIn X.K (.ref f) = true) (hb : Binds X.K fd ps ds) (hd : Vals dvs ds) (hx : Passes CX X E)
    (ha : PA X (e :: es) t) (hdb : (x == ("__debug__" : Str)) = false := by decide) (he : starEach (e :: es) X.env = (false, eval e X.env) :: starEach es X.env := by rfl) (hpl : (backTo pos (starEach es X.env)).any (·.1) = false := by rfl) :
    PE X (.Call (.Name x p) (e :: es) [] pos) (tCall sp dvs E t) := by
  intro pins s σ H Q I h
  refine wpAny_Call_Name_kw (ld_glob I hg hm ?_ hdb)
  refine PySem.W.callWith_K (h₀ := X.base) I.ok.mod.kin hk (thn (ha pos pins s σ H _ I h) fun us s1 ⟨vs, H1, I1, r, q⟩ => ⟨I1.kIn, ?_⟩) he hpl
  exact run_fn F hr hb hd hx I1 r q
/-- what a class must have to be made -/
structure Mk (K : PySem.W.Frag) (C f : Addr) : Prop where
  makes : PySem.W.makesIn K C = true
  init : PySem.W.findIn K (.ref C) "__init__" = some (some (.ref f))
  fn : PySem.W.isFn K (.ref f) = true
  kp : PySem.W.keepIn K (.ref C) = true

end

/-! ### keywords -/
/-- the values of the keywords, from the left -/
def PK (X : Cx) (kws : List Keyword) (t : TA) : Prop :=
  ∀ (pos : Pos) (pins : List (Addr × Obj)) (s : Shared) (σ : St) (H : Hp) (Q : List V → Hp → Prop), Inv X pins σ H s → t σ H Q → wpAny (model X.prog X.w) X.A (evalAll ((backToKw pos (keywordEach kws X.env)).map (·.2))) (AP X pins σ Q) X.xe s
section
variable {X : Cx} {CX : CXT} {k : Nat} {f C : Addr} {fd : FuncData} {ps ks : List Str} {sp : Sp} {E : XK} {x m : Str} {p pos apos kpos : Pos} {e o : Expr} {es : List Expr} {kws : List Keyword} {te ta : TE} {t tk : TA} {nm : Option Str}
/-- how a call with keywords binds: g puts the positional values us and the keywords' values ws (names ks) in the parameters' order, defaults among them -/
structure KBinds (K : PySem.W.Frag) (fd : FuncData) (ps ks : List Str) (g : List Value → List Value → List Value) (gV : List V → List V → List V) : Prop where
  to : ∀ (s : Shared) (us ws : List Value), K.In s.heap → (g us ws).length = ps.length → BindsTo s fd ⟨us, ks.zip ws⟩ (ps.zip (g us ws))
  rel : ∀ {vs : List V} {us : List Value} {zs : List V} {ws : List Value}, Vals vs us → Vals zs ws → Vals (gV vs zs) (g us ws)
def tCallK (sp : Sp) (gV : List V → List V → List V) (E : XK) (t tk : TA) : TE := fun σ H Q => t σ H fun vs H1 => tk σ H1 fun zs H2 => sp (gV vs zs) H2 Q E
variable {g : List Value → List Value → List Value} {gV : List V → List V → List V}
end

/-! ### a def's body keeps its promise -/
/-- names: the parameters first -/
structure FnScope (N P : List Str) (sc : Scope) : Prop where
  kind : sc.kind = .function
  co : sc.isCoroutine = false
  gen : sc.isGenerator = false
  nd : N.Nodup
  pre : N.take P.length = P
  par : ∀ x ∈ P, sc.names.lookup x = some .local ∨ sc.names.lookup x = some .cell
  nofree : ∀ y ∈ sc.names, y.2 ≠ .free

theorem bindL_out {kindOf : Str → Option NameKind} {x : Str} : ∀ {binds : List (Str × Value)} {m : Str → Option Value}, (∀ v, (x, v) ∉ binds) → bindL kindOf binds m x = m x
  | [], _, _ => rfl
  | (n, v) :: r, m, h => by
    unfold bindL
    rw [bindL_out fun w hw => h w (List.mem_cons_of_mem _ hw)]
    split
    · have : x ≠ n := by rintro rfl; exact h v List.mem_cons_self
      simp [this]
    · rfl
theorem bindC_out {kindOf : Str → Option NameKind} {x : Str} : ∀ {binds : List (Str × Value)} {m : Str → Option Value}, (∀ v, (x, v) ∉ binds) → bindC kindOf binds m x = m x
  | [], _, _ => rfl
  | (n, v) :: r, m, h => by
    unfold bindC
    rw [bindC_out fun w hw => h w (List.mem_cons_of_mem _ hw)]
    split
    · rfl
    · have : x ≠ n := by rintro rfl; exact h v List.mem_cons_self
      simp [this]
theorem bindL_get {kindOf : Str → Option NameKind} {x : Str} {v : Value} : ∀ {P : List Str} {vs : List Value} {i : Nat} {m : Str → Option Value}, P.Nodup → P[i]? = some x → vs[i]? = some v → kindOf x = some .local →
    bindL kindOf (P.zip vs) m x = some v
  | [], _, _, _, _, h, _, _ => by simp at h
  | _ :: _, [], _, _, _, _, h, _ => by simp at h
  | p :: P, w :: vs, 0, m, nd, h1, h2, hk => by
    simp at h1 h2; subst h1; subst h2
    show bindL kindOf ((p, w) :: P.zip vs) m p = _
    unfold bindL
    rw [bindL_out fun v hv => (List.nodup_cons.mp nd).1 (List.of_mem_zip hv).1, if_pos hk]
    simp
  | p :: P, w :: vs, i + 1, m, nd, h1, h2, hk => by
    show bindL kindOf ((p, w) :: P.zip vs) m x = _
    unfold bindL
    exact bindL_get (i := i) (List.nodup_cons.mp nd).2 (by simpa using h1) (by simpa using h2) hk
theorem bindC_get {kindOf : Str → Option NameKind} {x : Str} {v : Value} : ∀ {P : List Str} {vs : List Value} {i : Nat} {m : Str → Option Value}, P.Nodup → P[i]? = some x → vs[i]? = some v → kindOf x ≠ some .local →
    bindC kindOf (P.zip vs) m x = some v
  | [], _, _, _, _, h, _, _ => by simp at h
  | _ :: _, [], _, _, _, _, h, _ => by simp at h
  | p :: P, w :: vs, 0, m, nd, h1, h2, hk => by
    simp at h1 h2; subst h1; subst h2
    show bindC kindOf ((p, w) :: P.zip vs) m p = _
    unfold bindC
    rw [bindC_out fun v hv => (List.nodup_cons.mp nd).1 (List.of_mem_zip hv).1, if_neg hk]
    simp
  | p :: P, w :: vs, i + 1, m, nd, h1, h2, hk => by
    show bindC kindOf ((p, w) :: P.zip vs) m x = _
    unfold bindC
    exact bindC_get (i := i) (List.nodup_cons.mp nd).2 (by simpa using h1) (by simpa using h2) hk

/-- the names' values at the entry -/
def start (N : List Str) (vs : List V) : St := vs.map some ++ List.replicate (N.length - vs.length) none

/-- the context of a def's body, at its entry; an exception leaves the frame, then lies as CX says -/
def cxOf (CX : CXT) (P : Program) (w : World) (K : PySem.W.Frag) (mg : Str → Option Value) (base : Heap) (N : List Str) (qual : Str) (scope : Scope) (f : Addr) (cd : Value) (A : Around) (outer : List Env) (s : Shared) (H : Hp) (E : XK) : Cx where
  prog := P
  w := w
  K := K
  mg := mg
  base := base
  A := A.deeper (envOfC qual scope s.heap.objs.size f cd)
  N := N
  s₀ := s
  H₀ := H
  env := envOfC qual scope s.heap.objs.size f cd
  outer := outer
  stack := envOfC qual scope s.heap.objs.size f cd :: outer
  ex := []
  calm := true
  fn := fun _ => true
  pn := []
  xe := fun e s' => wpAny (model P w) (A.deeper (envOfC qual scope s.heap.objs.size f cd)) (leaving (envOfC qual scope s.heap.objs.size f cd) e) (fun _ s'' => CX outer H s E e s'') (fun e' s'' => CX outer H s E e' s'') s'

theorem cell_has {sc : Scope} {n : Nat} {x : Str} (h : sc.names.lookup x = some .cell) : ∃ c, (cellsFrom n sc.names []).lookup x = some c := by
  have q := PySem.W.cellsFrom_some sc.names n [] (.inl h)
  exact Option.isSome_iff_exists.mp q

theorem inv_start {CX : CXT} {P : Program} {w : World} {K : PySem.W.Frag} {mg : Str → Option Value} {base : Heap} {N ps : List Str} {qual : Str} {scope : Scope} {f : Addr} {cd : Value} {A : Around} {outer : List Env} {s s1 : Shared} {H : Hp} {E : XK} {us : List Value} {vs : List V}
    (S : FnScope N ps scope) (hd : A.handled = none) (e0 : Env0 P w K mg base A outer s H) (hl : vs.length = ps.length) (r : Vals vs us)
    (x : InCallC s s.heap.objs.size (bindL (envOfC qual scope s.heap.objs.size f cd).kindOf (ps.zip us) fun _ => none) (cellsFrom (s.heap.objs.size + 1) scope.names []) (bindC (envOfC qual scope s.heap.objs.size f cd).kindOf (ps.zip us) fun _ => none) s1) :
    Inv (cxOf CX P w K mg base N qual scope f cd A outer s H E) [] (start N vs) H s1 := by
  have hpl : ps.length ≤ N.length := by have := congrArg List.length S.pre; rw [List.length_take] at this; omega
  obtain ⟨h1, tk, rfl, hk⟩ := x.done
  have noA : ∀ b : Addr, b ∉ (cxOf CX P w K mg base N qual scope f cd A outer s H E).ex := fun b z => absurd (show b ∈ ([] : List Addr) from z) (by simp)
  refine ⟨⟨e0.mod, S.kind, rfl, rfl, Nat.le_refl _, fun y z c h1 h2 => ?_, fun y hy => ?_, fun y c _ h => ?_, fun _ => hd, Around.frames_deeper e0.frames, .inr ⟨rfl, rfl⟩, fun b z => absurd z (noA b), e0.bs, e0.bsz, fun b _ _ => noA b, fun b z => absurd z (noA b), e0.funs, e0.frf⟩,
    rfl, e0.bare, Un.kept hk, ⟨_, x.toInCall.ns, fun i y v h1 h2 h3 => ?_⟩, fun y c h => ⟨_, x.cell y c h⟩, e0.hok.fresh (Nat.le_refl _), fun y c h => ?_, fun p hp => absurd (show p ∈ ([] : List (Addr × Obj)) from hp) (by simp), e0.hok.kept hk, ?_⟩
  · exact name_of_addr x.apart (PySem.mem_of_lookup h1) (PySem.mem_of_lookup h2)
  · have hy : scope.names.lookup y = some .cell ∨ scope.names.lookup y = some .free := hy
    rcases hy with hy | hy
    · exact cell_has hy
    · exact absurd rfl (S.nofree _ (PySem.mem_of_lookup hy))
  · exact Nat.le_of_lt (x.above y c (PySem.mem_of_lookup h))
  · have hi : i < vs.length := by
      unfold start at h2
      by_cases hi : i < vs.length
      · exact hi
      · rw [List.getElem?_append_right (by simpa using hi)] at h2
        rw [List.getElem?_replicate] at h2
        split at h2 <;> cases h2
    have ha : vs[i]? = some v := by
      unfold start at h2
      rw [List.getElem?_append_left (by simpa using hi), List.getElem?_map] at h2
      cases e : vs[i]? with
      | none => rw [e] at h2; cases h2
      | some a => rw [e] at h2; cases h2; rfl
    obtain ⟨u, hu, rv⟩ := r.get ha
    have hp : ps[i]? = some y := by
      rw [← S.pre, List.getElem?_take_of_lt (by omega)]; exact h1
    have ndP : ps.Nodup := by rw [← S.pre]; exact S.nd.sublist (List.take_sublist _ _)
    refine ⟨u, rv, ?_⟩
    rcases S.par y (List.mem_of_getElem? hp) with k | k
    · exact .inl ⟨k, bindL_get ndP hp hu k⟩
    · obtain ⟨c, e⟩ := cell_has (n := s.heap.objs.size + 1) k
      refine .inr ⟨.inl k, c, e, ?_⟩
      have q := x.cell y c e
      rw [bindC_get ndP hp hu (by show scope.names.lookup y ≠ _; rw [k]; decide)] at q
      exact q
  · exact e0.hok.fresh (Nat.le_of_lt (x.above y c (PySem.mem_of_lookup h)))
  · unfold start
    show _ = N.length
    rw [List.length_append, List.length_map, List.length_replicate]
    omega

/-- THE RULE: a def (or a method) of the text, by its body. The body's reading t is chosen for each entry; it is run at the parameters' values -/
theorem fn_of {CX : CXT} {P : Program} {w : World} {K : PySem.W.Frag} {mg : Str → Option Value} {base : Heap} {k : Nat} {f : Addr} {name qual : Str} {params : Arguments} {body : List Stmt} {scope : Scope} {dV kV doc pm cdv ct oc : Value} {an od : Option Addr}
    {osl : Array (Option Value)} {N ps : List Str} {sp : Sp} (lk : K.lookup f = some ⟨oc, od, .func (PySem.W.fnOf name qual params body scope dV kV doc pm an cdv ct), osl⟩) (hcd : PySem.W.codeIn K cdv qual = true) (S : FnScope N ps scope)
    (len : ∀ vs H Q E, sp vs H Q E → vs.length = ps.length)
    (hbody : ∀ (A : Around) (outer : List Env) (s : Shared) (H : Hp) (vs : List V) (Q : VK) (E : XK), Room k (A.deeper (envOfC qual scope s.heap.objs.size f cdv)) → sp vs H Q E →
      ∃ t, PSs (cxOf CX P w K mg base N qual scope f cdv A outer s H E) body t ∧ t { nx := fun _ H' => Q .non H', rt := Q } (start N vs) H) :
    FnOk P w K mg base CX (k + 1) f (PySem.W.fnOf name qual params body scope dV kV doc pm an cdv ct) ps sp := by
  refine ⟨len, fun A outer s H args us vs Q E hr e0 hb r hsp => ?_⟩
  have hl := len _ _ _ _ hsp
  have KX : K.In s.heap := e0.mod.kin.keeps fun b o e => (e0.bs b o e).1
  have lim : s.heap.NoLimit := e0.mod.nolimit.keeps fun b o e => (e0.bs b o e).1
  have hkind : ∀ y ∈ ps.zip us, scope.names.lookup y.1 = some .local ∨ (scope.names.lookup y.1 = some .cell ∧ ((cellsFrom (s.heap.objs.size + 1) scope.names []).lookup y.1).isSome = true) := fun ⟨n, v⟩ hy => by
    rcases S.par n (List.of_mem_zip hy).1 with q | q
    · exact .inl q
    · exact .inr ⟨q, PySem.W.cellsFrom_some _ _ _ (.inl q)⟩
  refine codeAny_call_function hr.depth (KX _ _ lk) rfl S.co S.gen rfl (PySem.W.codeRec_of KX hcd) (hb _ _ _ _ ?_)
  refine wpAny_newFunctionEnv_cells S.kind hkind fun env he s1 x => ?_
  subst he
  refine ⟨lim.keeps x.toInCall.keep, codeAny_func ?_⟩
  obtain ⟨t, ht, hq⟩ := hbody A outer s H vs Q E (hr.deeper _) hsp
  have I : Inv (cxOf CX P w K mg base N qual scope f cdv A outer s H E) [] (start N vs) H s1 := inv_start S hr.hd e0 hl r x
  refine wpAny_mono (ht [] s1 (start N vs) H _ I hq) (fun fl s' hs => ?_) fun e s' hs => hs
  have fin : ∀ {σ' : St} {H' : Hp} {v : V} {u : Value}, Inv (cxOf CX P w K mg base N qual scope f cdv A outer s H E) [] σ' H' s' → RelV v u → Q v H' → CE outer P w H s Q u s' :=
    fun {σ' H' v u} J rv q => ⟨v, H', J.os, J.bare, J.base, J.hok, rv, q⟩
  cases fl with
  | ret u =>
    obtain ⟨v, σ', H', J, rv, q⟩ := hs
    exact fin J rv q
  | next =>
    obtain ⟨σ', H', J, q⟩ := hs
    exact fin (v := V.non) (u := Value.none) J rfl q
  | brk =>
    obtain ⟨_, _, _, q⟩ := hs
    exact False.elim q
  | cont =>
    obtain ⟨_, _, _, q⟩ := hs
    exact False.elim q
end L2

namespace L2
open PySem PySem.Spec PyProof.Rows
section
variable {X : Cx} {x : Str} {p pos : Pos} {e : Expr} {es : List Expr} {t : TA} {id T : String} {r : List V → Hp → VK → Prop}

def tCB (r : List V → Hp → VK → Prop) (t : TA) : TE := fun σ H Q => t σ H fun vs H1 => r vs H1 Q
/-- f(e, ..), f a built-in function -/
theorem pe_callB (hc : CallR X (.builtin id) r) (hg : Gl X x) (hm : X.mg x = none) (hv : bootBuiltins x = some (.builtin id)) (ha : PA X (e :: es) t) (hn : x ≠ "__name__" := by decide) (hdb : (x == ("__debug__" : Str)) = false := by decide)
    (he : starEach (e :: es) X.env = (false, eval e X.env) :: starEach es X.env := by rfl) (hpl : (backTo pos (starEach es X.env)).any (·.1) = false := by rfl) : PE X (.Call (.Name x p) (e :: es) [] pos) (tCB r t) := by
  intro pins s σ H Q I h
  refine wpAny_Call_Name_kw (ld_blt I hg hm hv ?_ hn hdb)
  exact PyProof.Rows.callWith_builtin1 (thn (ha pos pins s σ H _ I h) fun us s1 ⟨vs, H1, I1, r1, q1⟩ => hc pins s1 σ H1 vs us Q I1 r1 q1) he hpl
/-- T(e, ..), T a built-in type -/
theorem pe_callTy (hc : CallR X (.type T) r) (hg : Gl X x) (hm : X.mg x = none) (hv : bootBuiltins x = some (.type T)) (ha : PA X (e :: es) t) (hn : x ≠ "__name__" := by decide) (hdb : (x == ("__debug__" : Str)) = false := by decide)
    (he : starEach (e :: es) X.env = (false, eval e X.env) :: starEach es X.env := by rfl) (hpl : (backTo pos (starEach es X.env)).any (·.1) = false := by rfl) : PE X (.Call (.Name x p) (e :: es) [] pos) (tCB r t) := by
  intro pins s σ H Q I h
  refine wpAny_Call_Name_kw (ld_blt I hg hm hv ?_ hn hdb)
  exact PyProof.Rows.callWith_type1 (thn (ha pos pins s σ H _ I h) fun us s1 ⟨vs, H1, I1, r1, q1⟩ => hc pins s1 σ H1 vs us Q I1 r1 q1) he hpl
end
end L2

namespace HT
open PySem PyProof.Rows

/-- t < u of tuples of ints -/
def lexLt : List Int → List Int → Bool
  | [], [] => false
  | [], _ :: _ => true
  | _ :: _, [] => false
  | x :: xs, y :: ys => if x = y then lexLt xs ys else decide (x < y)
section
open PySem.SeqAt
open PySem.AutoSeq1 (wpAny_loadPart')
open PySem.MeetsSeq PySem.MeetsSeq2 PySem.MeetsSeq3

end

section
variable {prog : Program} {w : World} {A : Around} {E : Value → Shared → Prop} {s : Shared}

/-! ### t[a:b], not the whole -/
/-- a slice's bound as a place among n (d where it is left out) -/
def sIx (n d : Nat) : Option Int → Nat
  | none => d
  | some v => if v < 0 then (v + (n : Int)).toNat else min v.toNat n
theorem sIx_none (n d : Nat) : sIx n d none = d := rfl
theorem sIx_nat (n d k : Nat) : sIx n d (some (k : Int)) = min k n := by
  show (if (k : Int) < 0 then ((k : Int) + (n : Int)).toNat else min (k : Int).toNat n) = min k n
  rw [if_neg (by omega), Int.toNat_natCast]
end
end HT

namespace L2
open PySem PySem.Spec PyProof.Rows

/-! ### the parts of a slice -/
abbrev TO := St → Hp → (Option Int → Hp → Prop) → Prop
/-- a slice's part (left out, or an int) -/
def PO (X : Cx) (e : Option Expr) (t : TO) : Prop :=
  ∀ (pins : List (Addr × Obj)) (s : Shared) (σ : St) (H : Hp) (Q : Option Int → Hp → Prop), Inv X pins σ H s → t σ H Q →
    wpAny (model X.prog X.w) X.A (evalPart e X.env) (fun u s' => ∃ o H', Inv X pins σ H' s' ∧ IsPart u o ∧ Q o H') X.xe s
def tNoPart : TO := fun _ H Q => Q none H
def tPart (t : TE) : TO := fun σ H Q => t σ H fun x H1 => ∃ i, x = .int i ∧ Q (some i) H1

theorem intsAre_of {ns : List Int} : ∀ {us : List Value}, Vals (ns.map V.int) us → IntsAre us ns := by
  induction ns with
  | nil => intro us r; rw [List.map_nil] at r; cases r; exact .nil
  | cons n ns ih =>
    intro us r
    rw [List.map_cons] at r
    cases r with
    | cons r1 r2 =>
      obtain ⟨t, e⟩ := r1
      subst e
      exact .cons n t (ih r2)

section
variable {X : Cx} {e : Expr} {te : TE} {lo hi : Option Expr} {tl th : TO} {pos p2 : Pos}

theorem po_none : PO X none tNoPart := by
  intro pins s σ H Q I h
  rw [evalPart_none]
  exact wpAny_pure ⟨none, H, I, .none, h⟩
theorem po_some (h : PE X e te) : PO X (some e) (tPart te) := by
  intro pins s σ H Q I hw
  rw [evalPart_some]
  refine thn (h pins s σ H _ I hw) fun u s1 ⟨x, H1, I1, r1, q1⟩ => ?_
  obtain ⟨i, rfl, q⟩ := q1
  obtain ⟨t, rfl⟩ := r1
  exact ⟨some i, H1, I1, .int i t, q⟩

/-- what a slice of a value is, by values: the slice object stands at sl -/
def SlR (X : Cx) (r : V → Option Int → Option Int → Hp → VK → Prop) : Prop :=
  ∀ (pins : List (Addr × Obj)) (s : Shared) (σ : St) (H : Hp) (x : V) (v vl vu : Value) (lo hi : Option Int) (sl : Addr) (Q : VK), Inv X pins σ H s → RelV x v → s.heap.IsSliceOf sl vl vu .none → IsPart vl lo → IsPart vu hi → r x lo hi H Q →
    ∃ T id, typeLookup (.type T) "__getitem__" = pure (some (.builtin id)) ∧ s.TypeIs v T ∧ wpAny (model X.prog X.w) X.A (getItem v (.ref sl)) (EP X pins σ Q) X.xe s
theorem SlR.or {r r' : V → Option Int → Option Int → Hp → VK → Prop} (h : SlR X r) (h' : SlR X r') : SlR X (fun x lo hi H Q => r x lo hi H Q ∨ r' x lo hi H Q) := by
  intro pins s σ H x v vl vu lo hi sl Q I rx hs pl pu q
  rcases q with q | q
  · exact h pins s σ H x v vl vu lo hi sl Q I rx hs pl pu q
  · exact h' pins s σ H x v vl vu lo hi sl Q I rx hs pl pu q
def tSl (r : V → Option Int → Option Int → Hp → VK → Prop) (te : TE) (tl th : TO) : TE := fun σ H Q => te σ H fun x H1 => tl σ H1 fun l H2 => th σ H2 fun u H3 => r x l u H3 Q
/-- a[lo:hi], any a -/
theorem pe_slice {r : V → Option Int → Option Int → Hp → VK → Prop} (hr : SlR X r) (he : PE X e te) (hl : PO X lo tl) (hu : PO X hi th) : PE X (.Subscript e (.Slice lo hi none p2) pos) (tSl r te tl th) := by
  intro pins s σ H Q I h
  refine Subscript_ (thn (he pins s σ H _ I h) fun v s1 ⟨x, H1, I1, r1, q1⟩ => ?_)
  refine wpAny_Slice (thn (hl pins s1 σ H1 _ I1 q1) fun vl s2 ⟨l, H2, I2, pl, q2⟩ => thn (hu pins s2 σ H2 _ I2 q2) fun vu s3 ⟨u, H3, I3, pu, q3⟩ => ?_)
  rw [evalPart_none]
  refine wpAny_pure ?_
  have I4 : Inv X pins σ H3 { s3 with heap := s3.heap.push { cls := .type "slice", data := .fields #[vl, vu, .none] } } := I3.kept (t' := s3.toks) fun b ob q => Heap.get?_push_of_some _ q
  obtain ⟨T, id, hT, ht, hg⟩ := hr pins { s3 with heap := s3.heap.push { cls := .type "slice", data := .fields #[vl, vu, .none] } } σ H3 x v vl vu l u s3.heap.objs.size Q I4 r1 (Heap.IsSliceOf.new ..) pl pu q3
  show wpAny (model X.prog X.w) X.A (subscriptTail e (.Slice lo hi none p2) v (.ref s3.heap.objs.size)) (EP X pins σ Q) X.xe { s3 with heap := s3.heap.push { cls := .type "slice", data := .fields #[vl, vu, .none] } }
  exact tail_any (ops := [.ref s3.heap.objs.size, v]) ht hT hg (by with_unfolding_all rfl)

/-- the items of xs[lo:hi] -/
def cutV (xs : List V) (lo hi : Option Int) : List V := (xs.drop (HT.sIx xs.length 0 lo)).take (HT.sIx xs.length xs.length hi - HT.sIx xs.length 0 lo)
theorem cutV_length (xs : List V) (lo hi : Option Int) : (cutV xs lo hi).length ≤ xs.length := by
  unfold cutV
  rw [List.length_take, List.length_drop]
  omega
/-- t[lo:hi], not the whole of it (the whole would be t itself) -/
def rSlT (K : PySem.W.Frag) : V → Option Int → Option Int → Hp → VK → Prop := fun x lo hi H Q => ∃ a xs, x = .ref a ∧ SqT K H a xs ∧
  ¬ (HT.sIx xs.length 0 lo = 0 ∧ HT.sIx xs.length xs.length hi = xs.length) ∧ ∀ p, H p = none → Q (.ref p) (upd H p (.tup (cutV xs lo hi)))
/-! ### t < u, t + u -/
def rLtT (K : PySem.W.Frag) : R2 := fun x y H Q => ∃ a b ns ms, x = .ref a ∧ y = .ref b ∧ SqT K H a (ns.map V.int) ∧ SqT K H b (ms.map V.int) ∧ Q (.bl (HT.lexLt ns ms)) H
/-- t + u, t not empty: u empty gives t itself -/
def rCatT (K : PySem.W.Frag) : R2 := fun x y H Q => ∃ a b xs ys, x = .ref a ∧ y = .ref b ∧ SqT K H a xs ∧ SqT K H b ys ∧ xs ≠ [] ∧ xs.length + ys.length ≤ sizeLine ∧
  (ys = [] → Q (.ref a) H) ∧ (ys ≠ [] → ∀ p, H p = none → Q (.ref p) (upd H p (.tup (xs ++ ys))))
end
end L2

namespace L2
open PySem PySem.Spec PyProof.Rows

/-! ### places -/
/-- the place that an index of any sign means -/
def ixN (n : Nat) (i : Int) : Option Nat := if 0 ≤ i then (if i < n then some i.toNat else none) else if -(n : Int) ≤ i then some (i + n).toNat else none
def atI {α : Type} (xs : List α) (i : Int) : Option α := (ixN xs.length i).bind fun j => xs[j]?
theorem ixN_seq {n : Nat} {i : Int} {j : Nat} (h : ixN n i = some j) : seqIndex? i n = some j ∧ j < n ∧ -(n : Int) ≤ i ∧ i < n := by
  unfold ixN at h
  by_cases h0 : 0 ≤ i
  · rw [if_pos h0] at h
    by_cases h1 : i < n
    · rw [if_pos h1] at h
      have e : i.toNat = j := Option.some.inj h
      exact ⟨by rw [seqIndex_of h0 h1, e], by omega, by omega, h1⟩
    · rw [if_neg h1] at h; cases h
  · rw [if_neg h0] at h
    by_cases h1 : -(n : Int) ≤ i
    · rw [if_pos h1] at h
      have e : (i + n).toNat = j := Option.some.inj h
      exact ⟨by rw [seqIndex_neg (by omega) h1, e], by omega, h1, by omega⟩
    · rw [if_neg h1] at h; cases h
theorem atI_get {α : Type} {xs : List α} {i : Int} {v : α} (h : atI xs i = some v) : ∃ j, seqIndex? i xs.length = some j ∧ xs[j]? = some v ∧ j < xs.length ∧ -(xs.length : Int) ≤ i ∧ i < xs.length := by
  unfold atI at h
  cases e : ixN xs.length i with
  | none => rw [e] at h; cases h
  | some j =>
    rw [e] at h
    obtain ⟨h1, h2, h3, h4⟩ := ixN_seq e
    exact ⟨j, h1, h, h2, h3, h4⟩
theorem atI_nat {α : Type} {xs : List α} {j : Nat} {v : α} (h : xs[j]? = some v) : atI xs (j : Int) = some v := by
  have hj : j < xs.length := (List.getElem?_eq_some_iff.mp h).1
  have e : ixN xs.length (j : Int) = some j := by
    unfold ixN
    rw [if_pos (by omega), if_pos (by omega)]; simp
  unfold atI; rw [e]; exact h
/-! ### what may be subscripted -/
/-- what stands as an index of a plain subscript -/
def PlainIx (b : Expr) : Prop := ∀ o i, subscripted b false o i = operate [o, i] (getItem o i)
/-- a subscript by values -/
def IxR (X : Cx) (r : R2) : Prop :=
  ∀ (value slice : Expr) (pins : List (Addr × Obj)) (s : Shared) (σ : St) (H : Hp) (x y : V) (v u : Value) (Q : VK), Inv X pins σ H s → RelV x v → RelV y u → r x y H Q →
    subscripted slice false v u = operate [v, u] (getItem v u) → wpAny (model X.prog X.w) X.A (subscriptTail value slice v u) (EP X pins σ Q) X.xe s
/-- a call of a builtin's method by values: the receiver, the arguments -/
def MtR (X : Cx) (id : String) (r : V → List V → Hp → VK → Prop) : Prop :=
  ∀ (pins : List (Addr × Obj)) (s : Shared) (σ : St) (H : Hp) (x : V) (xs : List V) (v : Value) (us : List Value) (Q : VK), Inv X pins σ H s → RelV x v → Vals xs us → r x xs H Q →
    wpAny (model X.prog X.w) X.A (call (.builtin id) (v :: us)) (EP X pins σ Q) X.xe s
section
variable {X : Cx} {a b : Expr} {ta tb : TE} {pos : Pos}
theorem IxR.or {r r' : R2} (h : IxR X r) (h' : IxR X r') : IxR X (fun x y H Q => r x y H Q ∨ r' x y H Q) := by
  intro value slice pins s σ H x y v u Q I rx ry q hs
  rcases q with q | q
  · exact h value slice pins s σ H x y v u Q I rx ry q hs
  · exact h' value slice pins s σ H x y v u Q I rx ry q hs
/-- a[b] -/
theorem pe_ix {r : R2} (hr : IxR X r) (ha : PE X a ta) (hb : PE X b tb) (hs : PlainIx b) : PE X (.Subscript a b pos) (tOp r ta tb) := by
  intro pins s σ H Q I h
  exact Subscript_ (binT ha hb I h fun v u s2 x y H2 I2 rx ry q => hr a b pins s2 σ H2 x y v u Q I2 rx ry q (hs _ _))

def rIxL (K : PySem.W.Frag) : R2 := fun x y H Q => ∃ p xs i v, x = .ref p ∧ y = .int i ∧ SqL K H p xs ∧ atI xs i = some v ∧ Q v H
def rIxT (K : PySem.W.Frag) : R2 := fun x y H Q => ∃ p xs i v, x = .ref p ∧ y = .int i ∧ SqT K H p xs ∧ atI xs i = some v ∧ Q v H
def rIxS : R2 := fun x y H Q => ∃ z i c, x = .str z ∧ y = .int i ∧ z.length ≤ sizeLine ∧ atI z.cps.toList i = some c ∧ Q (.str ⟨#[c]⟩) H
theorem ix_list : IxR X (rIxL X.K) := by
  intro value slice pins s σ H x y v u Q I rx ry h hs
  obtain ⟨p, xs, i, z, rfl, rfl, hq, he, q⟩ := h
  cases rx
  obtain ⟨t, rfl⟩ := ry
  obtain ⟨its, r, pl, hz⟩ := I.list hq
  obtain ⟨j, h1, h2, h3, h4, h5⟩ := atI_get he
  obtain ⟨w, ew, rw'⟩ := r.get h2
  have hl := r.length
  have hn := line63
  have fin : EP X pins σ Q w s := ⟨z, H, I, rw', q⟩
  by_cases h0 : 0 ≤ i
  · have hj : i.toNat = j := by
      rw [seqIndex_of h0 h5] at h1
      exact Option.some.inj h1
    exact item_listR pl.isList h0 (by omega) (by rw [hj]; simpa using ew) fin hs
  · have hj : (i + (its.toArray.size : Int)).toNat = j := by
      rw [seqIndex_neg (by omega) h4] at h1
      rw [List.size_toArray, ← hl]
      exact Option.some.inj h1
    exact subscriptTail_builtinR (x := w) pl.isList.typeIs slot_list_getitem.lookup
      (wpAny_getItem_list_neg (Q := fun r s' => r = w ∧ EP X pins σ Q r s') pl.isList (by omega) (by rw [List.size_toArray] <;> omega) (by omega) (by rw [hj]; simpa using ew) ⟨rfl, fin⟩) hs
theorem ix_tup : IxR X (rIxT X.K) := by
  intro value slice pins s σ H x y v u Q I rx ry h hs
  obtain ⟨p, xs, i, z, rfl, rfl, hq, he, q⟩ := h
  cases rx
  obtain ⟨t, rfl⟩ := ry
  obtain ⟨its, r, pl, hz⟩ := I.tuple hq
  obtain ⟨j, h1, h2, h3, h4, h5⟩ := atI_get he
  obtain ⟨w, ew, rw'⟩ := r.get h2
  have hl := r.length
  have hn := line63
  have fin : EP X pins σ Q w s := ⟨z, H, I, rw', q⟩
  exact subscriptTail_builtinR (x := w) pl.typeIs slot_tuple_getitem.lookup
    (getItem_tuple (j := j) (Q := fun r s' => r = w ∧ EP X pins σ Q r s') pl (by omega) (by omega) (by rw [List.size_toArray, ← hl]; exact h1) (by simpa using ew) ⟨rfl, fin⟩) hs
theorem ix_str : IxR X rIxS := by
  intro value slice pins s σ H x y v u Q I rx ry h hs
  obtain ⟨z, i, c, rfl, rfl, hz, he, q⟩ := h
  obtain ⟨t, rfl⟩ := rx
  obtain ⟨t', rfl⟩ := ry
  obtain ⟨j, h1, h2, h3, h4, h5⟩ := atI_get he
  have hl : z.cps.toList.length = z.length := by simp [Str.length]
  rw [hl] at h1 h4 h5
  have hn := line63
  exact tail_any (typeIs_str s z t) slot_str_getitem.lookup (getItem_str (c := c) (by
    have e1 : decide (i < -(2 ^ 63 : Int)) = false := decide_eq_false (by omega)
    have e2 : decide (i ≥ 2 ^ 63) = false := decide_eq_false (by omega)
    rw [e1, e2, Bool.or_false]) (by rw [h1]; simpa using h2) ⟨.str ⟨#[c]⟩, H, I.tok _, ⟨_, rfl⟩, q⟩) hs
/-- list, tuple or str -/
def rIx (K : PySem.W.Frag) : R2 := fun x y H Q => rIxL K x y H Q ∨ rIxT K x y H Q ∨ rIxS x y H Q
/-! ### xs[i] = v, any sign -/
/-- the list's object behind a store -/
theorem mapSeq_set (its : List Value) (n j : Nat) (u : Value) : Obj.mapSeq (·.setIfInBounds j u) { cls := .type "list", data := .seq its.toArray n } = { cls := .type "list", data := .seq (its.set j u).toArray n } := by
  simp [Obj.mapSeq]
theorem Inv.lst {pins : List (Addr × Obj)} {σ : St} {H : Hp} {s : Shared} {p : Addr} {xs : List V} (I : Inv X pins σ H s) (h : H p = some (.lst xs)) :
    ∃ (its : List Value) (n : Nat), Vals xs its ∧ s.heap.get? p = some { cls := .type "list", data := .seq its.toArray n } ∧ xs.length ≤ sizeLine := by
  obtain ⟨z, its, n, r, e⟩ := I.hok p _ h
  exact ⟨its, n, r, e, z⟩
/-- the list at p is written by an update of its object -/
theorem Inv.lstUpd {pins : List (Addr × Obj)} {σ : St} {H : Hp} {s : Shared} {p : Addr} {xs ys : List V} {its its' : List Value} {n n' : Nat} {f : Obj → Obj} (I : Inv X pins σ H s) (h : H p = some (.lst xs))
    (ho : s.heap.get? p = some { cls := .type "list", data := .seq its.toArray n }) (hf : f { cls := .type "list", data := .seq its.toArray n } = { cls := .type "list", data := .seq its'.toArray n' }) (r : Vals ys its') (hz : ys.length ≤ sizeLine) (t : Nat) :
    Inv X pins σ (upd H p (.lst ys)) { s with heap := s.heap.update p f, toks := t } := by
  have e : (s.heap.update p f).get? p = some { cls := .type "list", data := .seq its'.toArray n' } := by
    rw [Heap.get?_update_self f ho (by rw [hf] <;> rfl), hf]
  refine I.write (x := p) (e := p) (by rw [h]; trivial) (.inl rfl) (fun b u hb q => (Heap.get?_update_other _ _ (Ne.symm hb)).trans q) ⟨_, e⟩ ?_
  exact ⟨hz, its', n', r, e⟩
def rSetL : V → V → V → Hp → (Hp → Prop) → Prop := fun o i v H Q => ∃ p xs k j, o = .ref p ∧ i = .int k ∧ H p = some (.lst xs) ∧ ixN xs.length k = some j ∧ Q (upd H p (.lst (xs.set j v)))
theorem set_list : PSet X rSetL := by
  intro pins s σ H o i v ov iv u Q I ro ri rv h
  obtain ⟨p, xs, k, j, rfl, rfl, hp, hj, q⟩ := h
  cases ro
  obtain ⟨t, rfl⟩ := ri
  obtain ⟨its, n, r, ho, hz⟩ := I.lst hp
  obtain ⟨h1, h2, h3, h4⟩ := ixN_seq hj
  have hl := r.length
  have hn := line63
  have I' : Inv X pins σ (upd H p (.lst (xs.set j v))) { s with heap := s.heap.update p (Obj.mapSeq (·.setIfInBounds j u)) } :=
    I.lstUpd hp ho (mapSeq_set its n j u) (r.set rv j) (by rw [List.length_set]; exact hz) s.toks
  by_cases h0 : 0 ≤ k
  · have hk : k.toNat = j := by
      rw [seqIndex_of h0 h4] at h1
      exact Option.some.inj h1
    exact PySem.W.ki_setAt ho h0 (by omega) (by rw [List.size_toArray, ← hl]; exact h4) (by rw [hk]; exact ⟨_, I', q⟩)
  · have hk : (k + (its.toArray.size : Int)).toNat = j := by
      rw [seqIndex_neg (by omega) h3] at h1
      rw [List.size_toArray, ← hl]
      exact Option.some.inj h1
    exact PySem.W.ki_setBack ho (by omega) (by rw [List.size_toArray, ← hl]; exact h3) (by omega) (by rw [hk]; exact ⟨_, I', q⟩)

/-! ### slices -/
theorem slice_bounds (lo hi : Option Int) (n : Nat) : (sliceBounds lo hi none n).1 = ((HT.sIx n 0 lo : Nat) : Int) ∧ (sliceBounds lo hi none n).2.1 = ((HT.sIx n n hi : Nat) : Int) ∧ (sliceBounds lo hi none n).2.2 = 1 := by
  refine ⟨?_, ?_, rfl⟩
  · cases lo with
    | none => simp [sliceBounds, HT.sIx]
    | some i =>
      simp only [sliceBounds, HT.sIx, Option.getD_none, show (1 : Int) > 0 by decide, if_true]
      by_cases h : i < 0
      · simp only [h, if_true] <;> omega
      · simp only [h, if_false] <;> omega
  · cases hi with
    | none => simp [sliceBounds, HT.sIx]
    | some i =>
      simp only [sliceBounds, HT.sIx, Option.getD_none, show (1 : Int) > 0 by decide, if_true]
      by_cases h : i < 0
      · simp only [h, if_true] <;> omega
      · simp only [h, if_false] <;> omega
theorem slicePick_cut (its : List Value) (lo hi : Option Int) : slicePick its.toArray lo hi none = ((its.drop (HT.sIx its.length 0 lo)).take (HT.sIx its.length its.length hi - HT.sIx its.length 0 lo)).toArray := by
  obtain ⟨h1, h2, h3⟩ := slice_bounds lo hi its.toArray.size
  unfold slicePick
  rw [h1, h2, h3]
  simp only [sliceRange_one, pick_run, List.size_toArray] <;> rfl
/-- xs[lo:hi] of a list: a new list -/
def rSlL (K : PySem.W.Frag) : V → Option Int → Option Int → Hp → VK → Prop := fun x lo hi H Q => ∃ a xs, x = .ref a ∧ SqL K H a xs ∧ ∀ p, H p = none → Q (.ref p) (upd H p (.lst (cutV xs lo hi)))
theorem sl_list : SlR X (rSlL X.K) := by
  intro pins s σ H x v vl vu lo hi sl Q I rx hs pl pu h
  obtain ⟨a, xs, rfl, hx, q⟩ := h
  cases rx
  obtain ⟨its, r, ht, hz⟩ := I.list hx
  have hlen := r.length
  refine ⟨"list", _, slot_list_getitem.lookup, ht.isList.typeIs, ?_⟩
  refine wpAny_getItem_list_slice ht.isList hs pl pu .none (by simp) ?_ (by rw [List.size_toArray] <;> omega)
  rw [slicePick_cut, ← hlen]
  refine ⟨.ref s.heap.objs.size, _, I.laid (t' := s.toks) (o := .lst (cutV xs lo hi)) (fun b ob q => Heap.get?_push_of_some _ q) (Nat.le_refl _) ?_, rfl, q _ (I.hok.fresh (Nat.le_refl _))⟩
  exact ⟨Nat.le_trans (cutV_length xs lo hi) hz, _, 0, (r.drop (HT.sIx xs.length 0 lo)).take (HT.sIx xs.length xs.length hi - HT.sIx xs.length 0 lo), Heap.get?_push_size _ rfl⟩

/-! ### in, not in: flat items -/
def flatV : V → Bool
  | .non => true
  | .bl _ => true
  | .int _ => true
  | .str _ => true
  | _ => false
/-- == of flat values -/
def eqV : V → V → Bool
  | .non, .non => true
  | .bl a, .bl b => a == b
  | .bl a, .int b => (if a then 1 else 0) == b
  | .int a, .bl b => a == (if b then 1 else 0)
  | .int a, .int b => a == b
  | .str a, .str b => a == b
  | _, _ => false
theorem eqAt_V {A : Around} {s : Shared} {y x : V} {u v : Value} (ry : RelV y u) (rx : RelV x v) (fy : flatV y = true) (fx : flatV x = true) : SeqAt.EqAt A s u v (eqV y x) := by
  cases y with
  | non =>
    cases ry
    cases x with
    | non => cases rx; exact SeqAt.EqAt.same _
    | bl b => cases rx; exact SeqAt.EqAt.none_bool b
    | int b => obtain ⟨t, rfl⟩ := rx; exact SeqAt.EqAt.none_int b t
    | str b => obtain ⟨t, rfl⟩ := rx; exact SeqAt.EqAt.none_str b t
    | _ => exact absurd (show false = true from fx) Bool.false_ne_true
  | bl a =>
    cases ry
    cases x with
    | non => cases rx; exact SeqAt.EqAt.bool_none a
    | bl b => cases rx; exact SeqAt.EqAt.bool_bool a b
    | int b => obtain ⟨t, rfl⟩ := rx; exact SeqAt.EqAt.bool_int a b t
    | str b => obtain ⟨t, rfl⟩ := rx; exact SeqAt.EqAt.bool_str a b t
    | _ => exact absurd (show false = true from fx) Bool.false_ne_true
  | int a =>
    obtain ⟨t', rfl⟩ := ry
    cases x with
    | non => cases rx; exact SeqAt.EqAt.int_none a t'
    | bl b => cases rx; exact SeqAt.EqAt.int_bool a t' b
    | int b => obtain ⟨t, rfl⟩ := rx; exact SeqAt.EqAt.int_int a t' b t
    | str b => obtain ⟨t, rfl⟩ := rx; exact SeqAt.EqAt.int_str a t' b t
    | _ => exact absurd (show false = true from fx) Bool.false_ne_true
  | str a =>
    obtain ⟨t', rfl⟩ := ry
    cases x with
    | non => cases rx; exact SeqAt.EqAt.str_none a t'
    | bl b => cases rx; exact SeqAt.EqAt.str_bool a t' b
    | int b => obtain ⟨t, rfl⟩ := rx; exact SeqAt.EqAt.str_int a t' b t
    | str b => obtain ⟨t, rfl⟩ := rx; exact SeqAt.EqAt.str_str a t' b t
    | _ => exact absurd (show false = true from fx) Bool.false_ne_true
  | _ => exact absurd (show false = true from fy) Bool.false_ne_true
/-- the items' answers, read off the values (a value's own answer does not lean on its token) -/
def eqU (x : V) (u : Value) : Bool := match u with
  | .none => eqV .non x
  | .bool b => eqV (.bl b) x
  | .int i _ => eqV (.int i) x
  | .str z _ => eqV (.str z) x
  | _ => false
theorem eqU_of {x y : V} {u : Value} (r : RelV y u) (f : flatV y = true) : eqU x u = eqV y x := by
  cases y with
  | non => cases r; rfl
  | bl b => cases r; rfl
  | int i => obtain ⟨t, rfl⟩ := r; rfl
  | str z => obtain ⟨t, rfl⟩ := r; rfl
  | _ => exact absurd (show false = true from f) Bool.false_ne_true
theorem any_eqU {x : V} : ∀ {xs : List V} {us : List Value}, Vals xs us → xs.all flatV = true → us.any (eqU x) = xs.any fun y => eqV y x
  | _, _, .nil, _ => rfl
  | y :: xs, u :: us, .cons r t, f => by
    rw [List.all_cons, Bool.and_eq_true] at f
    rw [List.any_cons, List.any_cons, eqU_of r f.1, any_eqU t f.2]
theorem mem_eqAt {A : Around} {s : Shared} {x : V} {v : Value} (rx : RelV x v) (fx : flatV x = true) : ∀ {xs : List V} {us : List Value}, Vals xs us → xs.all flatV = true → ∀ u ∈ us, SeqAt.EqAt A s u v (eqU x u)
  | _, _, .nil, _ => fun u hu => by cases hu
  | y :: xs, u :: us, .cons r t, f => fun u' hu => by
    rw [List.all_cons, Bool.and_eq_true] at f
    rcases List.mem_cons.mp hu with rfl | hu
    · rw [eqU_of r f.1]; exact eqAt_V r rx f.1 fx
    · exact mem_eqAt rx fx t f.2 u' hu
def inV (x : V) (xs : List V) : Bool := xs.any fun y => eqV y x
/-- x in a list or tuple of flat items -/
def rIn (K : PySem.W.Frag) (neg : Bool) : R2 := fun x y H Q => ∃ p xs, y = .ref p ∧ (SqL K H p xs ∨ SqT K H p xs) ∧ flatV x = true ∧ xs.all flatV = true ∧ Q (.bl (if neg then !inV x xs else inV x xs)) H
theorem op_in_seq : OpR X (compareOp .In) (rIn X.K false) := by
  intro pins s σ H x y v u Q I rx ry h
  obtain ⟨p, xs, rfl, hq, fx, fs, q⟩ := h
  cases ry
  rcases hq with hq | hq
  · obtain ⟨its, r, pl, hz⟩ := I.list hq
    refine SeqAt.in_listAt (eqU x) pl.isList (fun w hw => mem_eqAt rx fx r fs w (by simpa using hw)) ⟨.bl _, H, I, rfl, ?_⟩
    rw [show its.toArray.any (eqU x) = its.any (eqU x) by simp, any_eqU r fs]
    exact q
  · obtain ⟨its, r, pl, hz⟩ := I.tuple hq
    refine SeqAt.in_tupleAt (eqU x) pl (fun w hw => mem_eqAt rx fx r fs w (by simpa using hw)) ⟨.bl _, H, I, rfl, ?_⟩
    rw [show its.toArray.any (eqU x) = its.any (eqU x) by simp, any_eqU r fs]
    exact q
theorem op_notIn_seq : OpR X (compareOp .NotIn) (rIn X.K true) := by
  intro pins s σ H x y v u Q I rx ry h
  obtain ⟨p, xs, rfl, hq, fx, fs, q⟩ := h
  cases ry
  rcases hq with hq | hq
  · obtain ⟨its, r, pl, hz⟩ := I.list hq
    refine SeqAt.notIn_listAt (eqU x) pl.isList (fun w hw => mem_eqAt rx fx r fs w (by simpa using hw)) ⟨.bl _, H, I, rfl, ?_⟩
    rw [show its.toArray.any (eqU x) = its.any (eqU x) by simp, any_eqU r fs]
    exact q
  · obtain ⟨its, r, pl, hz⟩ := I.tuple hq
    refine SeqAt.notIn_tupleAt (eqU x) pl (fun w hw => mem_eqAt rx fx r fs w (by simpa using hw)) ⟨.bl _, H, I, rfl, ?_⟩
    rw [show its.toArray.any (eqU x) = its.any (eqU x) by simp, any_eqU r fs]
    exact q
/-! ### len, list(x), tuple(x) of any list or tuple that is read -/
theorem CallR.or {f : Value} {r r' : List V → Hp → VK → Prop} (h : CallR X f r) (h' : CallR X f r') : CallR X f (fun xs H Q => r xs H Q ∨ r' xs H Q) := by
  intro pins s σ H xs us Q I rs q
  rcases q with q | q
  · exact h pins s σ H xs us Q I rs q
  · exact h' pins s σ H xs us Q I rs q
theorem call_list_of : CallR X (.type "list") (fun xs H Q => ∃ p ys, xs = [.ref p] ∧ (SqL X.K H p ys ∨ SqT X.K H p ys) ∧ ∀ l, H l = none → Q (.ref l) (upd H l (.lst ys))) := by
  intro pins s σ H xs us Q I r h
  obtain ⟨p, ys, rfl, hq, q⟩ := h
  obtain ⟨u, rfl, rx⟩ := vals1 r
  cases rx
  have fin : ∀ (its : List Value), Vals ys its → ys.length ≤ sizeLine → ∀ (h' : Heap) (c' : Nat), (∀ b o', s.heap.get? b = some o' → h'.get? b = some o') →
      h'.get? s.heap.objs.size = some { cls := .type "list", dict := none, data := .seq its.toArray c', slots := #[] } → EP X pins σ Q (.ref s.heap.objs.size) { s with heap := h' } := fun its r' hz h' c' kp e =>
    ⟨.ref s.heap.objs.size, _, I.laid (t' := s.toks) kp (Nat.le_refl _) (show ObjOk X.prog X.w _ h' _ (.lst ys) from ⟨hz, its, c', r', e⟩), rfl, q _ (I.hok.fresh (Nat.le_refl _))⟩
  rcases hq with hq | hq
  · obtain ⟨its, r', pl, hz⟩ := I.list hq
    have hlen := r'.length
    obtain ⟨o, ho, hc, n, hd⟩ := pl.isList
    exact call_list_seq p (.inl rfl) ho hc hd (fun h' c' kp e => fin its r' hz h' c' kp e) (by simp only [List.size_toArray] <;> omega)
  · obtain ⟨its, r', pl, hz⟩ := I.tuple hq
    have hlen := r'.length
    obtain ⟨o, ho, hc, n, hd⟩ := pl
    exact call_list_seq p (.inr rfl) ho hc hd (fun h' c' kp e => fin its r' hz h' c' kp e) (by simp only [List.size_toArray] <;> omega)
/-! ### the call of a builtin's method: o.m(..) -/
/-- the value is of that builtin type -/
def tyV (K : PySem.W.Frag) (T : String) (x : V) (H : Hp) : Prop := match x with
  | .str _ => T = "str"
  | .int _ => T = "int"
  | .ref p => (T = "list" ∧ ∃ xs, SqL K H p xs) ∨ (T = "tuple" ∧ ∃ o, K.lookup p = some o ∧ o.cls = .type "tuple" ∧ o.dict = none) ∨
      (T = "dict" ∧ ((∃ kvs, H p = some (.dK kvs)) ∨ ∃ kvs, H p = some (.dT kvs))) ∨ (T = "set" ∧ ∃ S n, H p = some (.set S n))
  | _ => False
theorem tyV_is {pins : List (Addr × Obj)} {σ : St} {H : Hp} {s : Shared} {T : String} {x : V} {v : Value} (I : Inv X pins σ H s) (r : RelV x v) (ty : tyV X.K T x H) :
    s.TypeIs v T ∧ ∀ a, v = .ref a → ∃ ob, s.heap.get? a = some ob ∧ ob.dict = none := by
  cases x with
  | str z =>
    obtain ⟨t, rfl⟩ := r
    cases (show T = "str" from ty)
    exact ⟨typeIs_str s z t, fun _ e => nomatch e⟩
  | int i =>
    obtain ⟨t, rfl⟩ := r
    cases (show T = "int" from ty)
    exact ⟨typeIs_int s i t, fun _ e => nomatch e⟩
  | ref p =>
    cases r
    rcases ty with ⟨rfl, xs, hq⟩ | ⟨rfl, o, hk, hc, hd⟩ | ⟨rfl, hk⟩ | ⟨rfl, S, n, hk⟩
    · obtain ⟨its, _, pl, _⟩ := I.list hq
      refine ⟨pl.isList.typeIs, fun a e => ?_⟩
      cases e
      obtain ⟨o, n, e, c, hd, _⟩ := pl
      exact ⟨o, e, hd⟩
    · refine ⟨⟨o, I.kIn p o hk, hc⟩, fun a e => ?_⟩
      cases e
      exact ⟨o, I.kIn _ o hk, hd⟩
    · have z : ∃ o, s.heap.get? p = some o ∧ o.ExactDict := by
        rcases hk with ⟨kvs, hk⟩ | ⟨kvs, hk⟩
        · obtain ⟨_, _, _, _, o, _, _, e, ex, _⟩ := I.hok p _ hk
          exact ⟨o, e, ex⟩
        · obtain ⟨_, _, _, _, o, _, _, e, ex, _⟩ := I.hok p _ hk
          exact ⟨o, e, ex⟩
      obtain ⟨o, e, ex⟩ := z
      refine ⟨⟨o, e, ex.1⟩, fun a e2 => ?_⟩
      cases e2
      exact ⟨o, e, ex.2.1⟩
    · obtain ⟨o, _, _, _, e, ex, _⟩ := I.hok p _ hk
      refine ⟨⟨o, e, ex.1⟩, fun a e2 => ?_⟩
      cases e2
      exact ⟨o, e, ex.2.1⟩
  | _ => exact False.elim ty
def tBM0 (K : PySem.W.Frag) (T : String) (r : V → List V → Hp → VK → Prop) (to : TE) : TE := fun σ H Q => to σ H fun x H1 => tyV K T x H1 ∧ r x [] H1 Q
def tBM (K : PySem.W.Frag) (T : String) (r : V → List V → Hp → VK → Prop) (to : TE) (t : TA) : TE := fun σ H Q => to σ H fun x H1 => tyV K T x H1 ∧ t σ H1 fun xs H2 => r x xs H2 Q
variable {o e : Expr} {es : List Expr} {to : TE} {t : TA} {name : Str} {apos cpos : Pos} {T id : String} {r : V → List V → Hp → VK → Prop}
theorem pe_bm (pa : PlainAttrs T) (slot : Slot T name id) (hty : typeOf (.builtin id) = pure (.type "method_descriptor")) (hm : MtR X id r) (ho : PE X o to) (ha : PA X (e :: es) t)
    (hbase : attributeBase o name X.env (eval o X.env) = eval o X.env := by rfl)
    (hfew : ((backTo cpos (starEach (e :: es) X.env)).all (fun x => !x.1) && (backToKw cpos (keywordEach [] X.env)).all (fun x => x.1.isSome)
      && decide ((e :: es).length + ([] : List Keyword).length + (if ([] : List Keyword).isEmpty then 0 else 1) < 30)) = true := by rfl)
    (hline : (apos.endLine == cpos.line) = true := by rfl) (hs : starEach (e :: es) X.env = (false, eval e X.env) :: starEach es X.env := by rfl) (hplain : (backTo cpos (starEach es X.env)).any (·.1) = false := by rfl) :
    PE X (.Call (.Attribute o name apos) (e :: es) [] cpos) (tBM X.K T r to t) := by
  intro pins s σ H Q I h
  refine wpAny_Call_method_late hbase hfew hline rfl (thn (ho pins s σ H _ I h) fun v s1 ⟨x, H1, I1, r1, ty, q1⟩ => ?_)
  obtain ⟨h1, h2⟩ := tyV_is I1 r1 ty
  refine ⟨T, id, pa, slot, hty, h1, h2, ?_⟩
  have hA := ha cpos pins s1 σ H1 _ I1 q1
  rw [hs] at hA ⊢
  refine Calls.callWith_builtin (by show (false || (backTo cpos (starEach es X.env)).any (·.1)) = false; rw [hplain] <;> rfl) (Calls.evalArgs_plain ?_)
  exact thn hA fun us s2 ⟨vs, H2, I2, r2, q2⟩ => hm pins s2 σ H2 x vs v us Q I2 r1 r2 q2
/- xs.append(e), list.index on a module's tuple .. are MtR facts of 06m -/
end
end L2

namespace L2
open PySem PySem.Spec PyProof.Rows

def MtM (X : Cx) (id : String) (r : V → List V → Hp → VK → Prop) : Prop :=
  ∀ (pins : List (Addr × Obj)) (s : Shared) (σ : St) (H : Hp) (x : V) (xs : List V) (v : Value) (us : List Value) (Q : VK), Inv X pins σ H s → RelV x v → Vals xs us → r x xs H Q →
    wpAny (model X.prog X.w) X.A (call (.builtin id) (v :: us)) (EP X pins σ Q) X.xe s

/-! ### lists of values -/
theorem Vals.one : ∀ {x : V} {us : List Value}, Vals [x] us → ∃ u, us = [u] ∧ RelV x u
  | _, _, .cons r .nil => ⟨_, rfl, r⟩
theorem Vals.rep {xs : List V} {us : List Value} (h : Vals xs us) : ∀ k : Nat, Vals (List.replicate k xs).flatten (List.replicate k us).flatten
  | 0 => .nil
  | k + 1 => by
    rw [List.replicate_succ, List.replicate_succ, List.flatten_cons, List.flatten_cons]
    exact Vals.append h (Vals.rep h k)
theorem foldl_rep (its : List Value) : ∀ (k : Nat) (acc : List Value),
    List.foldl (fun x1 x2 => x1 ++ x2) acc.toArray (List.replicate k its.toArray) = (acc ++ (List.replicate k its).flatten).toArray
  | 0, acc => by simp
  | k + 1, acc => by
    have e : acc.toArray ++ its.toArray = (acc ++ its).toArray := by simp
    have e2 : (acc ++ its) ++ (List.replicate k its).flatten = acc ++ (List.replicate (k + 1) its).flatten := by
      rw [List.replicate_succ, List.flatten_cons, List.append_assoc]
    rw [← e2, ← foldl_rep its k (acc ++ its), ← e, List.replicate_succ, List.foldl_cons]

section
variable {X : Cx} {pins : List (Addr × Obj)} {σ : St} {H : Hp} {s : Shared} {l b : Addr} {xs ys zs : List V}

/-! ### the two steps: a tracked list is rewritten, a new list is laid -/
theorem Inv.lset {its its' : List Value} {n : Nat} {f : Array Value → Array Value} {t' : Nat} (I : Inv X pins σ H s) (hH : H l = some (.lst xs))
    (e : s.heap.get? l = some { cls := .type "list", data := .seq its.toArray n }) (hf : f its.toArray = its'.toArray) (hv : Vals ys its') (hz : ys.length ≤ sizeLine) :
    Inv X pins σ (upd H l (.lst ys)) { s with heap := s.heap.update l (Obj.mapSeq f), toks := t' } := by
  have q := PySem.IsL.update e f
  rw [hf] at q
  refine I.write (x := l) (e := l) (by rw [hH]; exact trivial) (.inl rfl) (fun b' u hb hu => (Heap.get?_update_other s.heap (Obj.mapSeq f) (Ne.symm hb)).trans hu) ⟨_, q⟩ ?_
  exact ⟨hz, its', _, hv, q⟩
theorem Inv.lnew {its : List Value} {t' : Nat} (I : Inv X pins σ H s) (hv : Vals ys its) (hz : ys.length ≤ sizeLine) :
    Inv X pins σ (upd H s.heap.objs.size (.lst ys)) { s with heap := s.heap.push { cls := .type "list", data := .seq its.toArray }, toks := t' } :=
  I.laid (fun _ _ q => Heap.get?_push_of_some _ q) (Nat.le_refl _) ⟨hz, its, 0, hv, Heap.get?_push_size _ rfl⟩
theorem Inv.fresh (I : Inv X pins σ H s) : H s.heap.objs.size = none := I.hok.fresh (Nat.le_refl _)
theorem Inv.lstM (I : Inv X pins σ H s) (hH : H l = some (.lst xs)) : xs.length ≤ sizeLine ∧ ∃ (its : List Value) (n : Nat), Vals xs its ∧ xs.length = its.length ∧ s.heap.get? l = some { cls := .type "list", data := .seq its.toArray n } := by
  obtain ⟨z, its, n, r, e⟩ := I.hok l _ hH
  exact ⟨z, its, n, r, r.length, e⟩

theorem notLongL {n : Nat} (h : n ≤ sizeLine) : Builtin.List.listTooLong n = false := by
  unfold Builtin.List.listTooLong
  exact decide_eq_false (by omega)
end

section
variable {X : Cx}

/-! ### methods -/
def rAppend : V → List V → Hp → VK → Prop := fun x vs H Q => ∃ l xs y, x = .ref l ∧ vs = [y] ∧ H l = some (.lst xs) ∧ xs.length < sizeLine ∧ Q .non (upd H l (.lst (xs ++ [y])))
theorem mt_append : MtM X "list.append" rAppend := by
  intro pins s σ H x vs v us Q I rx rv h
  obtain ⟨l, xs, y, rfl, rfl, hH, hz, q⟩ := h
  cases rx
  obtain ⟨u, rfl, ru⟩ := rv.one
  obtain ⟨z, its, n, r, hl, e⟩ := I.lstM hH
  refine call_meets F.slot_list_append ⟨_, e, rfl⟩ F.entry_list_append (F.args_list_append_2 _ _) (PySem.list_append l its.toArray n u (by rw [List.size_toArray]; omega)) ⟨e, ?_⟩
  refine ⟨.non, _, I.lset (its' := its ++ [u]) hH e (by simp) (r.append (.cons ru .nil)) ?_, rfl, q⟩
  rw [List.length_append, List.length_singleton]
  omega

def rExtend : V → List V → Hp → VK → Prop := fun x vs H Q => ∃ l b xs zs, x = .ref l ∧ vs = [.ref b] ∧ H l = some (.lst xs) ∧ H b = some (.lst zs) ∧ xs.length + zs.length ≤ sizeLine ∧ Q .non (upd H l (.lst (xs ++ zs)))
def rPop : V → List V → Hp → VK → Prop := fun x vs H Q => ∃ l xs y, x = .ref l ∧ vs = [] ∧ H l = some (.lst xs) ∧ xs[xs.length - 1]? = some y ∧ Q y (upd H l (.lst xs.dropLast))
def rPopAt : V → List V → Hp → VK → Prop := fun x vs H Q => ∃ l xs i k y, x = .ref l ∧ vs = [.int i] ∧ H l = some (.lst xs) ∧ -(2 ^ 63) ≤ i ∧ i < 2 ^ 63 ∧ seqIndex? i xs.length = some k ∧ xs[k]? = some y ∧ Q y (upd H l (.lst (xs.eraseIdx k)))
def rReverse : V → List V → Hp → VK → Prop := fun x vs H Q => ∃ l xs, x = .ref l ∧ vs = [] ∧ H l = some (.lst xs) ∧ Q .non (upd H l (.lst xs.reverse))
def rClear : V → List V → Hp → VK → Prop := fun x vs H Q => ∃ l xs, x = .ref l ∧ vs = [] ∧ H l = some (.lst xs) ∧ Q .non (upd H l (.lst []))
/-! ### list + list, list += list, list * int -/
def rCat : R2 := fun x y H Q => ∃ l b xs zs, x = .ref l ∧ y = .ref b ∧ H l = some (.lst xs) ∧ H b = some (.lst zs) ∧ xs.length + zs.length ≤ sizeLine ∧ ∀ p, H p = none → Q (.ref p) (upd H p (.lst (xs ++ zs)))
theorem op_cat : OpR X (binaryOp .Add) rCat := by
  intro pins s σ H x y v u Q I rx ry h
  obtain ⟨l, b, xs, zs, rfl, rfl, hH, hB, hz, q⟩ := h
  cases rx
  cases ry
  obtain ⟨z, its, n, r, hl, e⟩ := I.lstM hH
  obtain ⟨z2, its2, n2, r2, hl2, e2⟩ := I.lstM hB
  refine PySem.P.add_list e e2 ?_ (by rw [List.size_toArray, List.size_toArray]; omega)
  have ea : its.toArray ++ its2.toArray = (its ++ its2).toArray := by simp
  rw [ea]
  exact ⟨.ref _, _, I.lnew (t' := s.toks) (r.append r2) (by rw [List.length_append]; omega), rfl, q _ I.fresh⟩
/-- a list times an int (a negative one is nothing) -/
def rRep : R2 := fun x y H Q => ∃ l k xs, x = .ref l ∧ y = .int k ∧ H l = some (.lst xs) ∧ -(2 ^ 63) ≤ k ∧ k < 2 ^ 63 ∧ xs.length * k.toNat ≤ sizeLine ∧
  ∀ p, H p = none → Q (.ref p) (upd H p (.lst (List.replicate k.toNat xs).flatten))
theorem len_rep {α : Type} (xs : List α) (k : Nat) : (List.replicate k xs).flatten.length = k * xs.length := by
  induction k with
  | zero => simp
  | succ k ih => rw [List.replicate_succ, List.flatten_cons, List.length_append, ih, Nat.succ_mul, Nat.add_comm]
theorem op_rep : OpR X (binaryOp .Mult) rRep := by
  intro pins s σ H x y v u Q I rx ry h
  obtain ⟨l, k, xs, rfl, rfl, hH, h1, h2, hz, q⟩ := h
  cases rx
  obtain ⟨t, rfl⟩ := ry
  obtain ⟨z, its, n, r, hl, e⟩ := I.lstM hH
  have hlen : its.toArray.size * k.toNat ≤ sizeLine := by rw [List.size_toArray, ← hl]; exact hz
  have hcap : ¬ its.toArray.size * k.toNat > (2 ^ 63 - 1) / 8 := by
    have : (sizeLine : Nat) ≤ (2 ^ 63 - 1) / 8 := by decide
    omega
  have hfit : ¬ (!Builtin.List.listFitsIndex k) = true := by
    rw [fitsIndex_both h1 h2]
    exact Bool.false_ne_true
  have hlong : ¬ Builtin.List.listTooLong (its.toArray.size * k.toNat) = true := by
    rw [notLongL hlen]
    exact Bool.false_ne_true
  have hnew : List.foldl (fun x1 x2 => x1 ++ x2) #[] (List.replicate (if its.toArray.isEmpty = true then 0 else k.toNat) its.toArray) = (List.replicate k.toNat its).flatten.toArray := by
    have f0 : ∀ m : Nat, List.foldl (fun x1 x2 => x1 ++ x2) #[] (List.replicate m its.toArray) = (List.replicate m its).flatten.toArray := fun m => by
      have := foldl_rep its m []
      rw [List.nil_append] at this
      exact this
    rw [f0]
    cases its with
    | nil => simp
    | cons a r' => rw [if_neg (by simp)]
  refine wpAny_binaryOp_repeat_ref (T := "list") (U := "int") (by decide) ⟨_, e, rfl⟩ (fun s' => typeIs_int s' k t) noFill_list_mul F.fills_int_mul F.slot_int_rmul repeat_list F.slot_int_index.lookup
    (call_meets F.slot_int_rmul (typeIs_int s k t) F.entry_int_rmul (F.args_int_rmul_2 _ _) (int___rmul___int_list k t l its.toArray n)
      ⟨e, rfl, ⟨_, e, rfl⟩, call_meets F.slot_list_mul ⟨_, e, rfl⟩ F.entry_list_mul (F.args_list_mul_2 _ _) (AutoListH.list___mul___list_int_3 l its.toArray n k t hfit hcap hlong) ⟨e, ?_⟩⟩)
  rw [hnew]
  exact ⟨.ref _, _, I.lnew (t' := s.toks) (r.rep k.toNat) (by rw [len_rep, Nat.mul_comm]; exact hz), rfl, q _ I.fresh⟩

/-! ### del xs[i] -/
end

/-! ### xs[a:b] = ys -/
section
variable {prog : Program} {w : World} {A : Around} {E : Value → Shared → Prop} {s : Shared}
end

section
variable {X : Cx}
end
end L2

namespace Att
open PySem PySem.W PySem.Calls PyProof.Rows

/-! ### the script -/
theorem ints_of_wellAll {P : Params} {h : Heap} : ∀ (ns : List Int) (vs : List Value), WellAll P h vs (ns.map WData.int) → IntsAre vs ns := by
  intro ns
  induction ns with
  | nil =>
    intro vs w
    rw [List.map_nil] at w
    cases w
    exact .nil
  | cons n ns ih =>
    intro vs w
    rw [List.map_cons] at w
    cases w with
    | cons a b =>
      cases a
      exact .cons _ _ (ih _ b)

theorem script_of {l : OpenLaw} {n : Nat} (hn : l.most = some n) {P : Params} {h : Heap} {args : List WData} {vals : List Value}
    (hpre : l.row.toRowW.claim.pre args = true) (hwl : WellAll P h vals args) :
    ∃ a vs ns, vals = [Value.ref a] ∧ args = [WData.list (ns.map WData.int)] ∧ h.get? a = some { cls := .type "list", data := .seq vs.toArray } ∧ IntsAre vs ns ∧ ns.length ≤ n := by
  have hsh : WShape.hasAll [] args [.list .int] = true := (pre_splitW hpre).1
  have hc : l.pre.holds [] { args := args } = true := (pre_splitW hpre).2
  obtain ⟨d, r, rfl, h1, h2⟩ := hasAllW_cons hsh
  obtain rfl := hasAllW_nil h2
  obtain ⟨xs, rfl, h3⟩ := hasW_list h1
  obtain ⟨ns, rfl⟩ := items_int h3
  have hlen : ns.length ≤ n := by
    unfold OpenLaw.pre at hc
    have h4 : (WTm.not (.lt (.lit (.int (n : Int))) (.len (.arg 0)))).holds [] { args := [.list (ns.map .int)] } = true := by
      have h4 := (holds_andW hc).1
      rw [hn] at h4
      exact h4
    have h5 := condW_of h4 (w_not (w_lt w_lit (w_len_list (w_arg rfl))))
    rw [List.length_map] at h5
    refine Nat.le_of_not_lt fun q => ?_
    have q' : (n : Int) < ((ns.length : Nat) : Int) := by omega
    first
      | (rw [decide_eq_true q'] at h5; exact absurd h5 (by decide))
      | (simp at h5; omega)
  cases hwl with
  | cons w1 w2 =>
    cases w2
    cases w1 with
    | list ho hall => exact ⟨_, _, ns, rfl, rfl, ho, ints_of_wellAll ns _ hall, hlen⟩

theorem post_true (l : OpenLaw) (args : List WData) : l.row.toRowW.claim.post args (.bool true) args = true :=
  postW_of (r := l.row.toRowW) (X := (true == true))
    (show WShape.has [] (.bool true) .bool = true by first | rfl | decide | simp [WShape.has, WShape.arms, WShape.armsAll])
    (show (WTm.eq .res (.lit (.bool true))).value [] { args := args, res := some (.bool true), after := args } = some (.bool (true == true)) from w_eq_bool (w_res rfl) w_lit) rfl

/-! ### the attachment: holds_open's last premise (the goal 'hc' behind k_head) from a wpAny of the law's body -/
/-- the same from a codeAny of the CALL (for a layer whose function contracts speak of calls) -/
theorem attach_call {l : OpenLaw} {n : Nat} {q : Program} {loose : List Str} {XP : (Str → Option Value) → Heap → Prop} {YP : World → Heap → Prop} {d : DefRec}
    (hn : l.most = some n) (hdf : d.params.defaults = [])
    (call : ∀ (w : World) (s₀ s₁ : Shared) (mg mb : Str → Option Value) (fa : Addr) (o : Obj) (pm cd doc : Value) (a : Addr) (vs : List Value) (ns : List Int),
      Ground q loose [] XP w s₀ mg mb s₁.heap → YP w s₁.heap →
      s₁.heap.get? fa = some o → o.data = .func (docDef d.name d.params d.body d.scope pm cd doc) → s₁.heap.CodeRec cd d.name → mg d.name = some (.ref fa) →
      s₁.heap.get? a = some { cls := .type "list", data := .seq vs.toArray } → IntsAre vs ns → ns.length ≤ n → s₁.gens = #[] →
      codeAny (model l.prog w) callerA (.call (.ref fa) ⟨[.ref a], []⟩) (fun r s' => r = .ok (.ret (.bool true)) ∧ OldK s₁.heap s'.heap ∧ s'.os = s₁.os ∧ AllBare s'.gens) s₁) :
    WalkO q loose XP YP l.row.toRowW d [] (fun f vs => PySem.call f vs) := by
  intro w s₀ s₁ mg mb G Y fa o pm cd doc dV kV ho hd hcd hD hmg hg args vals as hpre hlay hrd hwl hlo
  obtain rfl : dV = .none := Dflts.none hD hdf
  obtain rfl : kV = .none := Dflts.noKw hD
  obtain ⟨a, vs, ns, rfl, rfl, hobj, hints, hlen⟩ := script_of hn hpre hwl
  refine enter_call (codeAny_mono (call w s₀ s₁ mg mb fa o pm cd doc a vs ns G Y ho (fd_plain hd) hcd hmg hobj hints hlen hg) fun r s' hq => ?_)
  obtain ⟨rfl, h2, h3, h4⟩ := hq
  exact ⟨.inl ⟨.bool true, .bool true, [], rfl, fun _ => rfl, .bool true, post_true l _, fun _ => ⟨List.Pairwise.nil, fun _ hm => (nomatch hm)⟩⟩, h2, h3, h4⟩

/-! ### rules over ANY heap (no ledger) from facts about the written part K: the library's own take a ledger (News) for what they write -/
section
variable {prog : Program} {w : World} {A : Around} {E : Value → Shared → Prop} {s : Shared} {K : Frag}

/-! the whole heap as the ledger: makes every rule that writes through a ledger a rule over any heap -/
def noObjs (h : Heap) : Heap := { h with objs := #[] }
def ledger (h : Heap) (L d : Addr) : List (Addr × Obj) := (List.range h.objs.size).filterMap fun a => if a = L ∨ a = d then none else (h.get? a).map fun o => (a, o)
end
end Att

namespace L2
open PySem PySem.Spec PyProof.Rows

theorem vals_ints : ∀ {vs : List Value} {ns : List Int}, IntsAre vs ns → Vals (ns.map V.int) vs
  | _, _, .nil => .nil
  | _, _, .cons n t h => .cons ⟨t, rfl⟩ (vals_ints h)

/-- nothing is tracked but the script, known to the object (or it is an object of the module) -/
def Only (H : Hp) : Prop := ∀ b, H b = none ∨ ∃ o xs, H b = some (.frz o (.lst xs))

/-- THE HEAD: the law's promise, at the heap behind the top. F, the promise of the law's def, may use that base is part of the heap (so K.In base, base.Ns mainGlobals mg stand in Mod) -/
theorem law_call {P : Program} {w : World} {K : PySem.W.Frag} {mg mb : Str → Option Value} {CX : CXT} {k : Nat} {fa a : Addr} {fd : FuncData} {x : Str} {sp : Sp} {s₁ : Shared} {vs : List Value} {ns : List Int}
    (KX : K.In s₁.heap) (hns : s₁.heap.Ns mainGlobals mg) (hb : s₁.heap.Ns builtinsNs mb) (hbb : ∀ x : Str, x ≠ "__name__" → mb x = bootBuiltins x) (hlim : s₁.heap.NoLimit) (hg : s₁.gens = #[])
    (ha : s₁.heap.get? a = some { cls := .type "list", data := .seq vs.toArray }) (hi : IntsAre vs ns) (hl : ns.length ≤ sizeLine) (hr : Room k callerA)
    (F : ∀ base : Heap, K.In base → base.Ns mainGlobals mg → FnOk P w K mg base CX k fa fd [x] sp) (hbind : ∀ (s : Shared) (u : Value), BindsTo s fd ⟨[u], []⟩ [(x, u)])
    (hsp : ∀ H : Hp, Only H → SqL K H a (ns.map V.int) → sp [.ref a] H (fun v _ => v = .bl true) fun _ _ _ => False)
    (hCX : ∀ H e s', CX [] H s₁ (fun _ _ _ => False) e s' → False) :
    codeAny (model P w) callerA (.call (.ref fa) ⟨[.ref a], []⟩) (fun r s' => r = .ok (.ret (.bool true)) ∧ OldK s₁.heap s'.heap ∧ s'.os = s₁.os ∧ AllBare s'.gens) s₁ := by
  have rv := vals_ints hi
  have lenV := hi.length
  -- from an abstract heap in which nothing but the script may be tracked
  have core : ∀ H : Hp, Only H → SqL K H a (ns.map V.int) → HOk P w H s₁.heap → (∀ b, H b ≠ none → b = a) → (H a ≠ none → K.lookup a = none) →
      codeAny (model P w) callerA (.call (.ref fa) ⟨[.ref a], []⟩) (fun r s' => r = .ok (.ret (.bool true)) ∧ OldK s₁.heap s'.heap ∧ s'.os = s₁.os ∧ AllBare s'.gens) s₁ := by
    intro H hO hS hok hA hK
    have base_of : ∀ {b : Addr} {o : Obj}, s₁.heap.get? b = some o → H b = none → (hidT s₁.heap H).get? b = some o := fun e n => hidT_get e n
    have noA : ∀ {b : Addr} {o : Obj} {es : Array DictEntry} {ep : Nat}, s₁.heap.get? b = some o → o.data = .dict es ep → H b = none := fun {b o es ep} e d => by
      cases q : H b with
      | none => rfl
      | some u =>
        have e' : b = a := hA b (by rw [q]; simp)
        subst e'
        rw [ha] at e; cases e
        have d' : Data.seq vs.toArray _ = Data.dict es ep := d
        cases d'
    have nsK : ∀ {b : Addr} {m : Str → Option Value}, s₁.heap.Ns b m → (hidT s₁.heap H).Ns b m := fun {b m} ⟨o, es, ep, e, d, r⟩ => ⟨o, es, ep, base_of e (noA e d), d, r⟩
    have hKb : K.In (hidT s₁.heap H) := fun b o e => base_of (KX b o e) (by
      cases q : H b with
      | none => rfl
      | some u =>
        have e' : b = a := hA b (by rw [q]; simp)
        subst e'
        rw [hK (by rw [q]; simp)] at e; cases e)
    have hM : Mod K mg (hidT s₁.heap H) := ⟨hKb, nsK hns, ⟨mb, nsK hb, hbb⟩, let ⟨mc, h1, h2⟩ := hlim; ⟨mc, nsK h1, h2⟩⟩
    have e0 : Env0 P w K mg (hidT s₁.heap H) callerA [] s₁ H := ⟨rfl, hM, fun b o e => of_hidT e, Nat.le_of_eq (hidT_size _ _), trivial, fun b hb => absurd (show b ∈ ([] : List Addr) from hb) (by simp), hok, .of_eq hg⟩
    refine codeAny_mono ((F _ hKb (nsK hns)).run callerA [] s₁ H ⟨[.ref a], []⟩ [.ref a] [.ref a] _ _ hr e0 (hbind s₁ (.ref a)) (.cons rfl .nil) (hsp H hO hS)) fun r s' h => ?_
    cases r with
    | error e => exact (hCX H e s' h).elim
    | ok fl =>
      cases fl with
      | next => exact False.elim h
      | brk => exact False.elim h
      | cont => exact False.elim h
      | ret u =>
        obtain ⟨v, H', os, bare, un, hok', r', q⟩ := h
        have q' : v = .bl true := q
        subst q'
        obtain rfl : u = Value.bool true := r'
        refine ⟨rfl, OldK.of_keep fun b o e => ?_, os, bare⟩
        cases q : H b with
        | none => exact un.keep b o e q (by intro z; exact absurd (show b ∈ ([] : List Addr) from z) (by simp)) (by simp)
        | some u =>
          rcases hO b with z | ⟨ob, xs, z⟩
          · rw [q] at z; cases z
          · have z2 := un.frzs b ob _ z
            obtain ⟨e1, _⟩ := hok b _ z
            obtain ⟨e2, _⟩ := hok' b _ z2
            rw [e] at e1; cases e1
            exact e2
  cases hk : K.lookup a with
  | some o =>
    -- the script is one of the module's own objects
    have e := KX a o hk
    rw [ha] at e
    cases e
    refine core (fun _ => none) (fun _ => .inl rfl) (.inr ⟨_, vs.toArray, _, hk, rfl, rfl, rfl, by rw [List.size_toArray, lenV]; exact hl, by simpa using rv⟩) (fun b u z => by have z' : (none : Option HO) = some u := z; cases z') (fun b z => absurd rfl z) fun z => absurd rfl z
  | none =>
    refine core (fun b => if b = a then some (.frz { cls := .type "list", data := .seq vs.toArray } (.lst (ns.map V.int))) else none) (fun b => ?_) (.inl (.inr ⟨{ cls := .type "list", data := .seq vs.toArray }, if_pos rfl⟩)) (fun b u z => ?_) (fun b z => ?_) fun _ => hk
    · by_cases hb : b = a
      · exact .inr ⟨_, _, if_pos hb⟩
      · exact .inl (if_neg hb)
    · by_cases hb : b = a
      · have z' := (if_pos hb).symm.trans z
        cases z'
        subst hb
        exact ⟨ha, by rw [List.length_map]; exact hl, vs, _, rv, ha⟩
      · have z' := (if_neg hb).symm.trans z
        cases z'
    · by_cases hb : b = a
      · exact hb
      · exact absurd (if_neg hb) z
end L2

namespace L2
open PySem PySem.Spec PyProof.Rows

abbrev KOf {K : PySem.W.Frag} {h : Heap} (_ : K.In h) : PySem.W.Frag := K

/-- the goal that k_head leaves (case hc), from the law's promise. F gives the function object fd (K's own) once, then the promise over every base -/
theorem walk_of {l : PySem.W.OpenLaw} {n k : Nat} {q : Program} {loose : List Str} {XP : (Str → Option Value) → Heap → Prop} {YP : World → Heap → Prop} {d : DefRec} {K : Params → PySem.W.Frag} {CX : World → CXT} {sp : World → Sp} {x : Str}
    (hn : l.most = some n) (hn2 : n ≤ sizeLine) (hdf : d.params.defaults = []) (hr : Room k callerA)
    (hY : ∀ (w : World) (h : Heap), YP w h → (K w.params).In h)
    (F : ∀ (w : World) (mg : Str → Option Value) (fa : Addr) (h : Heap), (K w.params).In h → h.Ns mainGlobals mg → mg d.name = some (.ref fa) →
      ∃ fd : FuncData, (∀ (s : Shared) (u : Value), BindsTo s fd ⟨[u], []⟩ [(x, u)]) ∧
        ∀ base : Heap, (K w.params).In base → base.Ns mainGlobals mg → FnOk l.prog w (K w.params) mg base (CX w) k fa fd [x] (sp w))
    (hsp : ∀ (w : World) (H : Hp) (a : Addr) (ns : List Int), ns.length ≤ n → Only H → SqL (K w.params) H a (ns.map V.int) → sp w [.ref a] H (fun v _ => v = .bl true) fun _ _ _ => False)
    (hCX : ∀ (w : World) (H : Hp) (s : Shared) (e : Value) (s' : Shared), CX w [] H s (fun _ _ _ => False) e s' → False) :
    PySem.W.WalkO q loose XP YP l.row.toRowW d [] (fun f vs => PySem.call f vs) := by
  refine Att.attach_call hn hdf fun w s₀ s₁ mg mb fa o pm cd doc a vs ns G Y ho hd hcd hmg hobj hints hlen hg => ?_
  have KX := hY w _ Y
  obtain ⟨fd, hb, hF⟩ := F w mg fa _ KX G.T.g hmg
  exact law_call KX G.T.g G.T.b G.T.builtins G.T.nolimit hg hobj hints (Nat.le_trans hlen hn2) hr hF hb (fun H hO hS => hsp w H a ns hlen hO hS) fun H e s' => hCX w H s₁ e s'
end L2

/- THE LAST THEOREM (shape; LID, My.* are yours):
   My.Adr: a structure of the addresses that your layer names (classes, functions); My.Txt K t: a structure (Prop) of the equations over K;
   My.txt_mk : {K} {implicit addresses ..} (e1 : nsIn K mainGlobals "law" = some (some (.ref f))) (e2 : K.lookup f = some ⟨oc, od, .func (fnOf "law" "law" params body scope dV kV doc pm an cdv ct), sl⟩) (e3 : codeIn K cdv "law" = true) .. : ∃ t, My.Txt K t

set_option maxRecDepth 100000 in
set_option maxHeartbeats 0 in
theorem PySem.Challenge.cw_LID_holds : PySem.Challenge.rw_LID.Holds := by
  w_on; o_law; k_head; (case hw => w_witness2)
  k_fill
  refine L2.walk_of (l := PySem.Challenge.rw_LID) (n := 63) (k := 40) (x := "script") (CX := fun w => ..) (sp := fun _ => My.sp_law) rfl (by decide) rfl ⟨rfl, by decide, by decide⟩ (fun w h Y => PySem.W.kIn_of Y) ?F ?S ?C
  case F =>
    intro w mg fa h KX G hmg
    have T : ∃ t, My.Txt (L2.KOf KX) t := by
      dsimp only [L2.KOf]                          -- K must stand as «<heap const> w.params» for k_is
      refine' My.txt_mk ?e1 ?e2 ?e3 ..
      (case e1 => PySem.W.k_is)                    -- in the order: a name -> its address -> its object -> its parts
      (case e2 => PySem.W.k_is)
      ..
    obtain ⟨t, T⟩ := T
    have e0 := hmg.symm.trans (PySem.W.mg_of KX G T.law)
    cases e0                                       -- fa is the law's own address
    exact ⟨_, fun s u => .of_eq rfl, fun base kb nb => My.law_fn T kb nb⟩     -- if «.of_eq rfl» comes too early: refine' ⟨_, ?b, fun base kb nb => My.law_fn T kb nb⟩; exact fun s u => .of_eq rfl
  case S => exact fun w H a ns hl hO hS => ..
  case C => exact ..
(the tactic k_is has no namespace: write k_is) -/

/-! SHORT WORDS over the layer: a def of the text, its body, what a loop and a test want. -/
namespace L2
open PySem PySem.Spec PyProof.Rows

/-! ### the text by places -/
/-- the j-th statement of a class's body -/
def inClass (s : Stmt) (j : Nat) : Stmt := match s with
  | .ClassDef _ _ _ body _ _ _ _ _ _ _ => body.getD j (.Pass ⟨0, 0, 0, 0⟩)
  | _ => .Pass ⟨0, 0, 0, 0⟩
def defArgs (s : Stmt) : Arguments := match s with
  | .FunctionDef _ a _ _ _ _ _ _ _ _ => a
  | _ => { posonlyargs := [], args := [], vararg := none, kwonlyargs := [], kw_defaults := [], kwarg := none, defaults := [] }
def defBody (s : Stmt) : List Stmt := match s with
  | .FunctionDef _ _ b _ _ _ _ _ _ _ => b
  | _ => []
def defScope (s : Stmt) : Scope := match s with
  | .FunctionDef _ _ _ _ _ _ sc _ _ _ => sc
  | _ => { kind := .function, names := [], isGenerator := false, isCoroutine := false }

/-! ### no exception leaves a def -/
abbrev CX0 : CXT := fun _ _ _ _ _ _ => False
abbrev E0 : XK := fun _ _ _ => False
theorem pass0 {X : Cx} : Passes CX0 X E0 := fun _ _ _ _ _ _ _ h => h.elim

/-! ### a def (or method) of the text as it stands behind the top -/
structure Fun (K : PySem.W.Frag) (x qual : Str) (st : Stmt) (f : Addr) (fd : FuncData) : Prop where
  ex : ∃ (oc : Value) (od : Option Addr) (kV doc pm : Value) (an : Option Addr) (cdv ct : Value) (osl : Array (Option Value)),
    fd = PySem.W.fnOf x qual (defArgs st) (defBody st) (defScope st) .none kV doc pm an cdv ct ∧ K.lookup f = some ⟨oc, od, .func fd, osl⟩ ∧ PySem.W.codeIn K cdv qual = true
  kp : PySem.W.keepIn K (.ref f) = true
section
variable {P : Program} {w : World} {K : PySem.W.Frag} {mg : Str → Option Value} {base : Heap}
/-- THE RULE for a def: its body as a term of rules, and the reading of that term -/
theorem Fun.ok {x qual : Str} {st : Stmt} {f : Addr} {fd : FuncData} {N ps : List Str} {k : Nat} {sp : Sp} (F : Fun K x qual st f fd) (S : FnScope N ps (defScope st)) (len : ∀ vs H Q E, sp vs H Q E → vs.length = ps.length)
    (hbody : ∀ (cdv : Value) (A : Around) (outer : List Env) (s : Shared) (H : Hp) (vs : List V) (Q : VK) (E : XK), Room k (A.deeper (envOfC qual (defScope st) s.heap.objs.size f cdv)) → sp vs H Q E →
      ∃ t, PSs (cxOf CX0 P w K mg base N qual (defScope st) f cdv A outer s H E).nox (defBody st) t ∧ t { nx := fun _ H' => Q .non H', rt := Q } (start N vs) H) : FnOk P w K mg base CX0 (k + 1) f fd ps sp := by
  obtain ⟨oc, od, kV, doc, pm, an, cdv, ct, osl, rfl, lk, hcd⟩ := F.ex
  refine fn_of lk hcd S len fun A outer s H vs Q E hr hsp => ?_
  obtain ⟨t, h, q⟩ := hbody cdv A outer s H vs Q E hr hsp
  exact ⟨t, h.nox, q⟩
/-- how its arguments bind (no defaults): h is «fun _ _ _ _ _ _ us hl => match us, hl with | [_, _], _ => rfl», one _ a parameter -/
theorem Fun.binds {x qual : Str} {st : Stmt} {f : Addr} {fd : FuncData} {ps : List Str} (F : Fun K x qual st f fd)
    (h : ∀ (kV doc pm : Value) (an : Option Addr) (cdv ct : Value) (us : List Value), us.length = ps.length → bindArgs (PySem.W.fnOf x qual (defArgs st) (defBody st) (defScope st) .none kV doc pm an cdv ct) ⟨us, []⟩ = pure (ps.zip us)) : Binds K fd ps [] := by
  obtain ⟨oc, od, kV, doc, pm, an, cdv, ct, osl, rfl, lk, hcd⟩ := F.ex
  exact .all (h kV doc pm an cdv ct)
theorem fun_mk {x qual : Str} {st : Stmt} {f : Addr} {oc : Value} {od an : Option Addr} {osl : Array (Option Value)} {kV doc pm cdv ct : Value} (l : K.lookup f = some ⟨oc, od, .func (PySem.W.fnOf x qual (defArgs st) (defBody st) (defScope st) .none kV doc pm an cdv ct), osl⟩)
    (c : PySem.W.codeIn K cdv qual = true) (k : PySem.W.keepIn K (.ref f) = true) : Fun K x qual st f (PySem.W.fnOf x qual (defArgs st) (defBody st) (defScope st) .none kV doc pm an cdv ct) := ⟨⟨oc, od, kV, doc, pm, an, cdv, ct, osl, rfl, l, c⟩, k⟩
end
/-! ### expressions in short: the name that stands in the i-th slot -/
section
variable {X : Cx}
theorem pv (i : Nat) {x : Str} {pos : Pos} (hN : X.N[i]? = some x := by rfl) (hv : Vis X.env.scope x := by first | exact Or.inl rfl | exact Or.inr (Or.inl rfl) | exact Or.inr (Or.inr rfl)) (hd : (x == ("__debug__" : Str)) = false := by decide)
    (hcd : (x == ("__classdict__" : Str)) = false := by decide) : PE X (.Name x pos) (tVar i) := pe_var hN hv hd hcd
end

/-! ### tests -/
theorem iteF {A B : Prop} (h : B) : if false = true then A else B := by
  rw [if_neg Bool.false_ne_true]
  exact h
theorem iteT {A B : Prop} (h : A) : if true = true then A else B := by
  rw [if_pos rfl]
  exact h
/-! ### heaps -/
/-- all that was tracked is as it was -/
def Same (H H' : Hp) : Prop := ∀ b o, H b = some o → H' b = some o
theorem Same.refl (H : Hp) : Same H H := fun _ _ h => h
theorem Same.trans {H H1 H2 : Hp} (a : Same H H1) (b : Same H1 H2) : Same H H2 := fun c o h => b c o (a c o h)
theorem Same.free {H H' : Hp} (e : Same H H') {l : Addr} (h : H' l = Option.none) : H l = Option.none := by
  cases q : H l with
  | none => rfl
  | some o =>
    rw [e l o q] at h
    cases h
theorem Same.seq {K : PySem.W.Frag} {H H' : Hp} {a : Addr} {xs : List V} (e : Same H H') (h : SqL K H a xs) : SqL K H' a xs := by
  rcases h with (h | ⟨o, h⟩) | h
  · exact .inl (.inl (e _ _ h))
  · exact .inl (.inr ⟨o, e _ _ h⟩)
  · exact .inr h

end L2

set_option Elab.async false
set_option linter.all false
set_option maxRecDepth 100000
namespace L2
open PySem PySem.Spec PyProof.Rows

/-! ### what a value stands for, read off the abstract heap; equality at any depth -/
def PdAt (K : PySem.W.Frag) (H : Hp) : Nat → PyData → V → Prop
  | 0, d, v => match d with
    | .none => v = .non
    | .bool b => v = .bl b
    | .int i => v = .int i
    | .str x => v = .str x ∧ PyData.strOk x = true
    | _ => False
  | n + 1, d, v => match d with
    | .none => v = .non
    | .bool b => v = .bl b
    | .int i => v = .int i
    | .str x => v = .str x ∧ PyData.strOk x = true
    | .list ds => ∃ a xs, v = .ref a ∧ SqL K H a xs ∧ Paired (PdAt K H n) ds xs
    | .tuple ds => ∃ a xs, v = .ref a ∧ SqT K H a xs ∧ Paired (PdAt K H n) ds xs
    | .dict _ => False
section
variable {X : Cx} {pins : List (Addr × Obj)} {σ : St} {H : Hp} {s : Shared}
theorem pd_reads (I : Inv X pins σ H s) : ∀ (n : Nat) (d : PyData) (v : V) (u : Value), PdAt X.K H n d v → RelV v u → ∃ as, Reads s.heap u d as := by
  intro n
  induction n with
  | zero =>
    intro d v u h r
    cases d with
    | none => cases (show v = .non from h); cases (show u = Value.none from r); exact ⟨_, Reads.none⟩
    | bool b => cases (show v = .bl b from h); cases (show u = Value.bool b from r); exact ⟨_, Reads.bool b⟩
    | int i => cases (show v = .int i from h); obtain ⟨t, rfl⟩ := (show ∃ t, u = Value.int i t from r); exact ⟨_, Reads.int i t⟩
    | str x => cases (show v = .str x ∧ _ from h).1; obtain ⟨t, rfl⟩ := (show ∃ t, u = Value.str x t from r); exact ⟨_, Reads.str x t⟩
    | list _ => exact (show False from h).elim
    | tuple _ => exact (show False from h).elim
    | dict _ => exact (show False from h).elim
  | succ n ih =>
    have all : ∀ (ds : List PyData) (xs : List V) (us : List Value), Paired (PdAt X.K H n) ds xs → Vals xs us → ∃ as, ReadsAll s.heap us ds as := by
      intro ds xs us p
      induction p generalizing us with
      | nil => intro r; cases r; exact ⟨_, ReadsAll.nil⟩
      | cons q _ hi =>
        intro r
        cases r with
        | cons r1 rr =>
          obtain ⟨as, h1⟩ := ih _ _ _ q r1
          obtain ⟨bs, h2⟩ := hi _ rr
          exact ⟨_, ReadsAll.cons h1 h2⟩
    intro d v u h r
    cases d with
    | none => cases (show v = .non from h); cases (show u = Value.none from r); exact ⟨_, Reads.none⟩
    | bool b => cases (show v = .bl b from h); cases (show u = Value.bool b from r); exact ⟨_, Reads.bool b⟩
    | int i => cases (show v = .int i from h); obtain ⟨t, rfl⟩ := (show ∃ t, u = Value.int i t from r); exact ⟨_, Reads.int i t⟩
    | str x => cases (show v = .str x ∧ _ from h).1; obtain ⟨t, rfl⟩ := (show ∃ t, u = Value.str x t from r); exact ⟨_, Reads.str x t⟩
    | list ds =>
      obtain ⟨a, xs, rfl, hq, hp⟩ := (show ∃ a xs, v = .ref a ∧ SqL X.K H a xs ∧ Paired (PdAt X.K H n) ds xs from h)
      cases (show u = Value.ref a from r)
      obtain ⟨its, rv, pl, hz⟩ := I.list hq
      obtain ⟨as, ra⟩ := all _ _ _ hp rv
      obtain ⟨o, ho, hc, k, hd⟩ := pl.isList
      exact ⟨_, reads_list_at ho hc hd (by simpa using ra)⟩
    | tuple ds =>
      obtain ⟨a, xs, rfl, hq, hp⟩ := (show ∃ a xs, v = .ref a ∧ SqT X.K H a xs ∧ Paired (PdAt X.K H n) ds xs from h)
      cases (show u = Value.ref a from r)
      obtain ⟨its, rv, pl, hz⟩ := I.tuple hq
      obtain ⟨as, ra⟩ := all _ _ _ hp rv
      obtain ⟨o, ho, hc, k, hd⟩ := (show s.heap.IsTuple a its.toArray from pl)
      exact ⟨_, reads_tuple_at ho hc hd (by simpa using ra)⟩
    | dict _ => exact (show False from h).elim
end
theorem pd_shape {K : PySem.W.Frag} {H : Hp} : ∀ (n : Nat) (d : PyData) (v : V), PdAt K H n d v → d.canLay0 = true ∧ d.depth ≤ n := by
  intro n
  induction n with
  | zero =>
    intro d v h
    cases d with
    | str x => simp [PyData.canLay0, PyData.depth, (show v = .str x ∧ PyData.strOk x = true from h).2]
    | list _ => exact (show False from h).elim
    | tuple _ => exact (show False from h).elim
    | dict _ => exact (show False from h).elim
    | _ => simp [PyData.canLay0, PyData.depth]
  | succ n ih =>
    have all : ∀ (ds : List PyData) (xs : List V), Paired (PdAt K H n) ds xs → PyData.canLayAll0 ds = true ∧ PyData.depthAll ds ≤ n := by
      intro ds xs p
      induction p with
      | nil => simp [PyData.canLayAll0, PyData.depthAll]
      | cons q _ hi =>
        have h1 := ih _ _ q
        simp only [PyData.canLayAll0, PyData.depthAll, h1.1, hi.1, Bool.and_self, true_and]
        have a1 := h1.2
        have a2 := hi.2
        omega
    intro d v h
    cases d with
    | str x => simp [PyData.canLay0, PyData.depth, (show v = .str x ∧ PyData.strOk x = true from h).2]
    | list ds =>
      obtain ⟨a, xs, rfl, hq, hp⟩ := (show ∃ a xs, v = .ref a ∧ SqL K H a xs ∧ Paired (PdAt K H n) ds xs from h)
      have q := all _ _ hp
      have q2 := q.2
      simp only [PyData.canLay0, PyData.depth, q.1, true_and]
      omega
    | tuple ds =>
      obtain ⟨a, xs, rfl, hq, hp⟩ := (show ∃ a xs, v = .ref a ∧ SqT K H a xs ∧ Paired (PdAt K H n) ds xs from h)
      have q := all _ _ hp
      have q2 := q.2
      simp only [PyData.canLay0, PyData.depth, q.1, true_and]
      omega
    | dict _ => exact (show False from h).elim
    | _ => simp [PyData.canLay0, PyData.depth]
def rEqP (K : PySem.W.Frag) : R2 := fun x y H Q => ∃ d e, PdAt K H 9 d x ∧ PdAt K H 9 e y ∧ Q (.bl (PyData.eqv d e)) H
def rNeP (K : PySem.W.Frag) : R2 := fun x y H Q => ∃ d e, PdAt K H 9 d x ∧ PdAt K H 9 e y ∧ Q (.bl (!PyData.eqv d e)) H
section
variable {X : Cx}
theorem pd_shaped {K : PySem.W.Frag} {H : Hp} {d : PyData} {v : V} (h : PdAt K H 9 d v) : SeqAt.shaped d = true := by
  have q := pd_shape 9 d v h
  unfold SeqAt.shaped
  rw [q.1, Bool.true_and]
  exact decide_eq_true (Nat.le_trans q.2 (by decide))
theorem op_eqP (hu : X.A.units + 64 < cLine) : OpR X (compareOp .Eq) (rEqP X.K) := by
  intro pins s σ H x y v u Q I rx ry h
  obtain ⟨d, e, hd, he, q⟩ := h
  obtain ⟨as, ra⟩ := pd_reads I 9 d x v hd rx
  obtain ⟨bs, rb⟩ := pd_reads I 9 e y u he ry
  exact eq_dataH ra rb (pd_shaped hd) (pd_shaped he) hu ⟨.bl _, H, I, rfl, q⟩
theorem op_neP (hu : X.A.units + 64 < cLine) : OpR X (compareOp .NotEq) (rNeP X.K) := by
  intro pins s σ H x y v u Q I rx ry h
  obtain ⟨d, e, hd, he, q⟩ := h
  obtain ⟨as, ra⟩ := pd_reads I 9 d x v hd rx
  obtain ⟨bs, rb⟩ := pd_reads I 9 e y u he ry
  exact ne_dataH ra rb (pd_shaped hd) (pd_shaped he) hu ⟨.bl _, H, I, rfl, q⟩
end
abbrev iL (ns : List Int) : List V := ns.map V.int
abbrev pL (ns : List Int) : PyData := .list (ns.map PyData.int)
theorem eqvAll_ints : ∀ (xs ys : List Int), PyData.eqvAll (xs.map PyData.int) (ys.map PyData.int) = decide (xs = ys)
  | [], [] => by simp [PyData.eqvAll]
  | [], y :: ys => by simp [PyData.eqvAll]
  | x :: xs, [] => by simp [PyData.eqvAll]
  | x :: xs, y :: ys => by
    simp only [List.map_cons, PyData.eqvAll, PyData.eqv, eqvAll_ints xs ys, List.cons.injEq]
    by_cases h1 : x = y <;> by_cases h2 : xs = ys <;> simp [h1, h2]
theorem eqv_pints (xs ys : List Int) : PyData.eqv (pL xs) (pL ys) = decide (xs = ys) := by
  show PyData.eqvAll _ _ = _
  exact eqvAll_ints xs ys
theorem paired_ints {K : PySem.W.Frag} {H : Hp} {n : Nat} : ∀ ns : List Int, Paired (PdAt K H n) (ns.map PyData.int) (iL ns)
  | [] => .nil
  | i :: ns => .cons (by cases n <;> exact (rfl : V.int i = V.int i)) (paired_ints ns)
theorem pd_ints {K : PySem.W.Frag} {H : Hp} {n : Nat} {a : Addr} {ns : List Int} (h : SqL K H a (iL ns)) : PdAt K H (n + 1) (pL ns) (.ref a) := ⟨a, iL ns, rfl, h, paired_ints ns⟩
theorem pd_int {K : PySem.W.Frag} {H : Hp} {n : Nat} {i : Int} : PdAt K H n (.int i) (.int i) := by cases n <;> exact (rfl : V.int i = V.int i)
theorem pd_bl {K : PySem.W.Frag} {H : Hp} {n : Nat} {b : Bool} : PdAt K H n (.bool b) (.bl b) := by cases n <;> exact (rfl : V.bl b = V.bl b)
/-! ### intro rules -/
section
variable {K : PySem.W.Frag} {σ : St} {H : Hp} {Q : VK}
theorem i_var {i : Nat} {v : V} (h : σ[i]? = some (some v)) (q : Q v H) : tVar i σ H Q := ⟨v, h, q⟩
theorem i_I0 {g : Int → Int → V} {i j : Int} (q : Q (g i j) H) : rI0 g (.int i) (.int j) H Q := ⟨i, j, rfl, rfl, q⟩
theorem i_U {g : Int → V} {i : Int} (q : Q (g i) H) : rU g (.int i) H Q := ⟨i, rfl, q⟩
theorem beq_dec (i j : Int) : (i == j) = decide (i = j) := by
  by_cases h : i = j <;> simp [h]
theorem i_eqI {i j : Int} (q : Q (.bl (decide (i = j))) H) : rEqP K (.int i) (.int j) H Q := ⟨_, _, pd_int, pd_int, by rw [← beq_dec] at q; simpa [PyData.eqv] using q⟩
theorem i_neI {i j : Int} (q : Q (.bl (!decide (i = j))) H) : rNeP K (.int i) (.int j) H Q := ⟨_, _, pd_int, pd_int, by rw [← beq_dec] at q; simpa [PyData.eqv] using q⟩
theorem i_eqL {a b : Addr} {xs ys : List Int} (ha : SqL K H a (iL xs)) (hb : SqL K H b (iL ys)) (q : Q (.bl (decide (xs = ys))) H) : rEqP K (.ref a) (.ref b) H Q := ⟨_, _, pd_ints ha, pd_ints hb, by rw [eqv_pints]; exact q⟩
end

/-! ### + and * of more kinds, an item -/
def rAddP : R2 := fun x y H Q => rI0 (fun i j => .int (i + j)) x y H Q ∨ rCat x y H Q
def rIxP (K : PySem.W.Frag) : R2 := fun x y H Q => rIxL K x y H Q ∨ rIxT K x y H Q
def rMulP : R2 := fun x y H Q => rI CMul (fun i j => .int (i * j)) x y H Q ∨ rRep x y H Q
section
variable {X : Cx}
theorem op_addP : OpR X (binaryOp .Add) rAddP := op_add.or op_cat
theorem op_mulP : OpR X (binaryOp .Mult) rMulP := op_mul.or op_rep
theorem ix_P : IxR X (rIxP X.K) := ix_list.or ix_tup
end
section
variable {K : PySem.W.Frag} {σ : St} {H : Hp} {Q : VK}
theorem i_addI {i j : Int} (q : Q (.int (i + j)) H) : rAddP (.int i) (.int j) H Q := .inl ⟨i, j, rfl, rfl, q⟩
theorem i_addL {a b : Addr} {xs ys : List V} (ha : H a = some (.lst xs)) (hb : H b = some (.lst ys)) (hl : xs.length + ys.length ≤ sizeLine) (q : ∀ p, H p = none → Q (.ref p) (upd H p (.lst (xs ++ ys)))) : rAddP (.ref a) (.ref b) H Q := .inr ⟨a, b, xs, ys, rfl, rfl, ha, hb, hl, q⟩
theorem i_mulI {i j : Int} (c : CMul i j) (q : Q (.int (i * j)) H) : rMulP (.int i) (.int j) H Q := .inl ⟨i, j, rfl, rfl, c, q⟩
theorem atI_ints {ns : List Int} {i : Int} (h0 : 0 ≤ i) (h1 : i < ns.length) : ∃ v, atI (iL ns) i = some (.int v) ∧ ns[i.toNat]? = some v ∧ v ∈ ns := by
  have hl : i.toNat < ns.length := by omega
  refine ⟨ns[i.toNat], ?_, by simp [hl], List.getElem_mem hl⟩
  have := atI_nat (xs := iL ns) (j := i.toNat) (v := .int ns[i.toNat]) (by simp [iL, hl])
  rwa [Int.toNat_of_nonneg h0] at this
/-- an item of a list of iL, in bounds -/
theorem i_ixL {p : Addr} {ns : List Int} {i : Int} (h : SqL K H p (iL ns)) (h0 : 0 ≤ i) (h1 : i < ns.length) (q : ∀ v, ns[i.toNat]? = some v → v ∈ ns → Q (.int v) H) : rIxP K (.ref p) (.int i) H Q := by
  obtain ⟨v, e1, e2, e3⟩ := atI_ints h0 h1
  exact .inl ⟨p, _, i, _, rfl, rfl, h, e1, q v e2 e3⟩
/-- an item of any list, at a place from the front -/
theorem i_ixN {p : Addr} {xs : List V} {i : Int} {v : V} (h : SqL K H p xs) (h0 : 0 ≤ i) (e : xs[i.toNat]? = some v) (q : Q v H) : rIxP K (.ref p) (.int i) H Q := by
  have := atI_nat (xs := xs) (j := i.toNat) (v := v) e
  rw [Int.toNat_of_nonneg h0] at this
  exact .inl ⟨p, _, i, _, rfl, rfl, h, this, q⟩
theorem i_ixT {p : Addr} {xs : List V} {i : Int} {v : V} (h : SqT K H p xs) (h0 : 0 ≤ i) (e : xs[i.toNat]? = some v) (q : Q v H) : rIxP K (.ref p) (.int i) H Q := by
  have := atI_nat (xs := xs) (j := i.toNat) (v := v) e
  rw [Int.toNat_of_nonneg h0] at this
  exact .inr ⟨p, _, i, _, rfl, rfl, h, this, q⟩
end

/-! ### calls of the text's own defs -/
def Callee (P : Program) (w : World) (K : PySem.W.Frag) (mg : Str → Option Value) (base : Heap) (x : Str) (k : Nat) (sp : Sp) : Prop :=
  ∃ f fd ps, FnOk P w K mg base CX0 k f fd ps sp ∧ mg x = some (.ref f) ∧ PySem.W.keepIn K (.ref f) = true ∧ Binds K fd ps []
def Def (K : PySem.W.Frag) (mg : Str → Option Value) (x : Str) (st : Stmt) : Prop := ∃ f fd, Fun K x x st f fd ∧ mg x = some (.ref f)
section
variable {X : Cx} {x : Str} {k : Nat} {sp : Sp} {e : Expr} {es : List Expr} {t : TA} {p pos : Pos}
theorem pe_callN (C : Callee X.prog X.w X.K X.mg X.base x k sp) (hr : Room k X.A) (hg : Gl X x) (ha : PA X (e :: es) t)
    (he : starEach (e :: es) X.env = (false, eval e X.env) :: starEach es X.env := by rfl) (hpl : (backTo pos (starEach es X.env)).any (·.1) = false := by rfl)
    (hdb : (x == ("__debug__" : Str)) = false := by decide) : PE X (.Call (.Name x p) (e :: es) [] pos) (tCall sp [] E0 t) := by
  obtain ⟨f, fd, ps, F, hm, hk, hb⟩ := C
  exact pe_call F hr hg hm hk hb .nil pass0 ha (hdb := hdb) (he := he) (hpl := hpl)
def rTru (K : PySem.W.Frag) (x : V) (H : Hp) (Q : Bool → Hp → Prop) : Prop := ∃ k, TruV K x H k ∧ Q k H
def tTru (K : PySem.W.Frag) (ta : TE) : TT := fun σ H Q => ta σ H fun x H' => rTru K x H' Q
theorem pt_truthN {a : Expr} {ta : TE} (ha : PE X a ta) (he : ∀ whole, isTrue a X.env whole = (do let v ← whole; standAt a.pos; holding [v] (truthy v))) :
    PT X a (tTru X.K ta) := pt_truth ha he
end
theorem Def.ok {P : Program} {w : World} {K : PySem.W.Frag} {mg : Str → Option Value} {base : Heap} {x : Str} {st : Stmt} {N ps : List Str} {k : Nat} {sp : Sp} (D : Def K mg x st) (S : FnScope N ps (defScope st))
    (bd : ∀ (kV doc pm : Value) (an : Option Addr) (cdv ct : Value) (us : List Value), us.length = ps.length → bindArgs (PySem.W.fnOf x x (defArgs st) (defBody st) (defScope st) .none kV doc pm an cdv ct) ⟨us, []⟩ = pure (ps.zip us))
    (len : ∀ vs H Q E, sp vs H Q E → vs.length = ps.length)
    (hbody : ∀ (f : Addr) (cdv : Value) (A : Around) (outer : List Env) (s : Shared) (H : Hp) (vs : List V) (Q : VK) (E : XK), Room k (A.deeper (envOfC x (defScope st) s.heap.objs.size f cdv)) → sp vs H Q E →
      ∃ t, PSs (cxOf CX0 P w K mg base N x (defScope st) f cdv A outer s H E).nox (defBody st) t ∧ t { nx := fun _ H' => Q .non H', rt := Q } (start N vs) H) : Callee P w K mg base x (k + 1) sp := by
  obtain ⟨f, fd, F, hm⟩ := D
  exact ⟨f, fd, ps, F.ok S len fun cdv A outer s H vs Q E hr h => hbody f cdv A outer s H vs Q E hr h, hm, F.kp, F.binds bd⟩

/-! ### built-ins -/
def rLen (K : PySem.W.Frag) : List V → Hp → VK → Prop := fun xs H Q => ∃ x n, xs = [x] ∧ LenV K x H n ∧ Q (.int n) H
def rIsi (K : PySem.W.Frag) : List V → Hp → VK → Prop := fun xs H Q => ∃ x t n b, xs = [x, .ty n] ∧ TyOf K H x t ∧ PySem.W.kitOne K t (.type n) = some b ∧ Q (.bl b) H
def rIntOf : List V → Hp → VK → Prop := fun xs H Q => (∃ i, xs = [.int i] ∧ Q (.int i) H) ∨ ∃ k, xs = [.bl k] ∧ Q (.int (if k then 1 else 0)) H
def rAbs : List V → Hp → VK → Prop := fun xs H Q => ∃ i, xs = [.int i] ∧ Q (.int (if i < 0 then -i else i)) H
def rListOf (K : PySem.W.Frag) : List V → Hp → VK → Prop := fun xs H Q => ∃ p ys, xs = [.ref p] ∧ (SqL K H p ys ∨ SqT K H p ys) ∧ ∀ l, H l = none → Q (.ref l) (upd H l (.lst ys))
section
variable {X : Cx}
theorem call_lenN : CallR X (.builtin "len") (rLen X.K) := call_len
theorem call_intN : CallR X (.type "int") rIntOf := call_int1
theorem call_absN : CallR X (.builtin "abs") rAbs := call_abs
theorem call_listN : CallR X (.type "list") (rListOf X.K) := call_list_of
theorem call_isinstanceN : CallR X (.builtin "isinstance") (rIsi X.K) := by
  intro pins s σ H xs us Q I r h
  obtain ⟨x, t, n, b, rfl, ty, e, q⟩ := h
  obtain ⟨u, c, rfl, rx, rc⟩ := vals2 r
  cases (show c = Value.type n from rc)
  exact isinst_ok I rx ty e fun tk => ⟨.bl b, H, I.tok tk, rfl, q⟩
end
section
variable {K : PySem.W.Frag} {σ : St} {H : Hp} {Q : VK}
theorem i_len {p : Addr} {xs : List V} (h : SqL K H p xs) (q : Q (.int xs.length) H) : rLen K [.ref p] H Q := ⟨_, _, rfl, .inl ⟨xs, h, rfl⟩, q⟩
theorem i_lenI {p : Addr} {ns : List Int} (h : SqL K H p (iL ns)) (q : Q (.int ns.length) H) : rLen K [.ref p] H Q := ⟨_, _, rfl, .inl ⟨_, h, rfl⟩, by simpa [iL] using q⟩
theorem i_intB {k : Bool} (q : Q (.int (if k then 1 else 0)) H) : rIntOf [.bl k] H Q := .inr ⟨k, rfl, q⟩
theorem i_abs {i : Int} (q : Q (.int (if i < 0 then -i else i)) H) : rAbs [.int i] H Q := ⟨i, rfl, q⟩
theorem i_listL {p : Addr} {ys : List V} (h : SqL K H p ys) (q : ∀ l, H l = none → Q (.ref l) (upd H l (.lst ys))) : rListOf K [.ref p] H Q := ⟨p, ys, rfl, .inl h, q⟩
theorem isi_ii : PySem.W.kitOne K (.type "int") (.type "int") = some true := by kernel_rfl
theorem isi_ib : PySem.W.kitOne K (.type "int") (.type "bool") = some false := by kernel_rfl
theorem isi_ll : PySem.W.kitOne K (.type "list") (.type "list") = some true := by kernel_rfl
theorem isi_il : PySem.W.kitOne K (.type "int") (.type "list") = some false := by kernel_rfl
theorem isi_id : PySem.W.kitOne K (.type "int") (.type "dict") = some false := by kernel_rfl
theorem isi_it : PySem.W.kitOne K (.type "int") (.type "tuple") = some false := by kernel_rfl
theorem isi_bb : PySem.W.kitOne K (.type "bool") (.type "bool") = some true := by kernel_rfl
theorem i_isiII {i : Int} (q : Q (.bl true) H) : rIsi K [.int i, .ty "int"] H Q := ⟨_, _, _, true, rfl, .int i, isi_ii, q⟩
theorem i_isiIB {i : Int} (q : Q (.bl false) H) : rIsi K [.int i, .ty "bool"] H Q := ⟨_, _, _, false, rfl, .int i, isi_ib, q⟩
theorem i_isiIL {i : Int} (q : Q (.bl false) H) : rIsi K [.int i, .ty "list"] H Q := ⟨_, _, _, false, rfl, .int i, isi_il, q⟩
theorem i_isiID {i : Int} (q : Q (.bl false) H) : rIsi K [.int i, .ty "dict"] H Q := ⟨_, _, _, false, rfl, .int i, isi_id, q⟩
theorem i_isiIT {i : Int} (q : Q (.bl false) H) : rIsi K [.int i, .ty "tuple"] H Q := ⟨_, _, _, false, rfl, .int i, isi_it, q⟩
theorem i_isiBB {b : Bool} (q : Q (.bl true) H) : rIsi K [.bl b, .ty "bool"] H Q := ⟨_, _, _, true, rfl, .bl b, isi_bb, q⟩
theorem i_isiLL {a : Addr} {xs : List V} (h : H a = some (.lst xs)) (q : Q (.bl true) H) : rIsi K [.ref a, .ty "list"] H Q := ⟨_, _, _, true, rfl, .lst h, isi_ll, q⟩
end

/-! ### tests, sizes -/
theorem i_if {p : Prop} [Decidable p] {A B : Prop} (h1 : p → A) (h2 : ¬ p → B) : if decide p = true then A else B := by
  by_cases h : p
  · rw [decide_eq_true h]; exact iteT (h1 h)
  · rw [decide_eq_false h]; exact iteF (h2 h)
theorem i_ifn {p : Prop} [Decidable p] {A B : Prop} (h1 : ¬ p → A) (h2 : p → B) : if (!decide p) = true then A else B := by
  by_cases h : p
  · rw [decide_eq_true h]; exact iteF (h2 h)
  · rw [decide_eq_false h]; exact iteT (h1 h)
theorem iteNT {A B : Prop} (h : B) : if (!true) = true then A else B := iteF h
theorem iteNF {A B : Prop} (h : A) : if (!false) = true then A else B := iteT h
theorem szl {n : Nat} (h : n ≤ 100000) : n ≤ sizeLine := Nat.le_trans h (by rw [sizeLine_eq]; decide)
theorem szlt {n : Nat} (h : n ≤ 100000) : n < sizeLine := Nat.lt_of_le_of_lt h (by rw [sizeLine_eq]; decide)
theorem same_upd {H : Hp} {l : Addr} {o : HO} (h : H l = none) : Same H (upd H l o) := fun b u e => by rw [upd_ne (ne_of_none e h)]; exact e
/-- all but one address as it was -/
def SameBut (l : Addr) (H H' : Hp) : Prop := ∀ b o, b ≠ l → H b = some o → H' b = some o
theorem cmul_l {i j : Int} (h1 : -(2 ^ 64) < i) (h2 : i < 2 ^ 64) : CMul i j := .inl ⟨h1, h2⟩
theorem cmul_r {i j : Int} (h1 : -(2 ^ 64) < j) (h2 : j < 2 ^ 64) : CMul i j := .inr ⟨h1, h2⟩
end L2

namespace L2
open PySem PySem.Spec PyProof.Rows
theorem bt_int : bootBuiltins "int" = some (.type "int") := by first | exact PySem.boot_int | exact PySem.Pv.boot_int | exact PyProof.Rows.boot_int
theorem bt_bool : bootBuiltins "bool" = some (.type "bool") := by first | exact PySem.boot_bool | exact PySem.Pv.boot_bool | exact PyProof.Rows.boot_bool
theorem bt_list : bootBuiltins "list" = some (.type "list") := by first | exact PySem.boot_list | exact PySem.Pv.boot_list | exact PyProof.Rows.boot_list
theorem bt_tuple : bootBuiltins "tuple" = some (.type "tuple") := by first | exact PySem.boot_tuple | exact PySem.Pv.boot_tuple | exact PyProof.Rows.boot_tuple
theorem bt_str : bootBuiltins "str" = some (.type "str") := by first | exact PySem.boot_str | exact PySem.Pv.boot_str | exact PyProof.Rows.boot_str
theorem bt_isinstance : bootBuiltins "isinstance" = some (.builtin "isinstance") := by first | exact PySem.boot_isinstance | exact PySem.Pv.boot_isinstance | exact PyProof.Rows.boot_isinstance
theorem bt_min : bootBuiltins "min" = some (.builtin "min") := by first | exact PySem.boot_min | exact PySem.Pv.boot_min | exact PyProof.Rows.boot_min
theorem bt_abs : bootBuiltins "abs" = some (.builtin "abs") := by first | exact PySem.boot_abs | exact PySem.Pv.boot_abs | exact PyProof.Rows.boot_abs
theorem bt_len : bootBuiltins "len" = some (.builtin "len") := by first | exact PySem.boot_len | exact PySem.Pv.boot_len | exact PyProof.Rows.boot_len
section
variable {X : Cx} {pos p1 p2 : Pos} {k1 k2 : Nat}
theorem pe_powK {i j r : Int} (h : 0 ≤ j ∧ j ≤ 1000000 ∧ i.natAbs < 2 ^ 64 ∧ i ^ j.toNat = r) : PE X (.BinOp (.Constant (.int i) k1 p1) .Pow (.Constant (.int j) k2 p2) pos) (tC (.int r)) := by
  intro pins s σ H Q I q
  refine pe_op op_pow pe_int pe_int pins s σ H Q I ?_
  exact ⟨i, j, rfl, rfl, ⟨h.1, h.2.1, h.2.2.1⟩, by have e := h.2.2.2; subst e; exact q⟩
end
section
variable {K : PySem.W.Frag} {σ : St} {H : Hp} {Q : VK} {i j : Int}
theorem i_div (h0 : 0 < j) (h1 : j < 1073741824) (q : Q (.int (i / j)) H) : rI CDiv (fun i j => .int (i / j)) (.int i) (.int j) H Q := ⟨i, j, rfl, rfl, ⟨h0, h1⟩, q⟩
theorem i_mod (h0 : 0 < j) (q : Q (.int (i % j)) H) : rI (fun _ j => 0 < j) (fun i j => .int (i % j)) (.int i) (.int j) H Q := ⟨i, j, rfl, rfl, h0, q⟩
theorem i_app {l : Addr} {xs : List V} {y : V} (h : H l = some (.lst xs)) (hl : xs.length < sizeLine) (q : Q .non (upd H l (.lst (xs ++ [y])))) : rAppend (.ref l) [y] H Q := ⟨l, xs, y, rfl, rfl, h, hl, q⟩
end
end L2

namespace L2
open PySem PySem.Spec PyProof.Rows
/-! ### loops, kept folded -/
def LoopI (J : It) (g : TG) (tb : TS) (D : Ends) (σ : St) (H1 : Hp) : Prop := ∃ W : Nat → Nat → St → Hp → Prop, (∃ m, W 0 m σ H1) ∧ ∀ i m σ H, W i m σ H →
  (J.stop i H ∧ D.nx σ H) ∨ (J.go i H ∧ ∃ N : St → Hp → Prop, (∀ σ' H', N σ' H' → ∃ m', m' < m ∧ W (i + 1) m' σ' H') ∧ ∀ x H', J.yld i H x H' → g x σ H' fun σ2 H2 => tb { D with nx := N, ct := N, bk := D.nx } σ2 H2)
theorem tFor_eq (wi : TI) (g : TG) (tb : TS) : tFor wi g tb = fun D σ H => wi σ H fun J H1 => LoopI J g tb D σ H1 := rfl
theorem lp_ints {K : PySem.W.Frag} {a : Addr} {ns : List Int} {g : TG} {tb : TS} {D : Ends} {σ : St} {H : Hp} (Pv : Nat → St → Hp → Prop) (h0 : Pv 0 σ H) (hl : ∀ i σ H, i ≤ ns.length → Pv i σ H → SqL K H a (iL ns))
    (hs : ∀ i x σ H, ns[i]? = some x → Pv i σ H → g (.int x) σ H fun σ2 H2 => tb { D with nx := Pv (i + 1), ct := Pv (i + 1), bk := D.nx } σ2 H2) (hd : ∀ σ H, Pv ns.length σ H → D.nx σ H) : LoopI (Itl K a) g tb D σ H := by
  have e : (iL ns).length = ns.length := by simp [iL]
  refine for_list (xs := iL ns) Pv h0 (fun i σ H h p => hl i σ H (by rw [e] at h; exact h) p) (fun i x σ H hx p => ?_) (fun σ H p => hd σ H (by rw [e] at p; exact p))
  rw [List.getElem?_map] at hx
  cases q : ns[i]? with
  | none => rw [q] at hx; cases hx
  | some z =>
    rw [q] at hx
    cases hx
    exact hs i z σ H q p
theorem lp_range {lo : Int} {n : Nat} {g : TG} {tb : TS} {D : Ends} {σ : St} {H : Hp} (Pv : Nat → St → Hp → Prop) (h0 : Pv 0 σ H)
    (hs : ∀ i σ H, i < n → Pv i σ H → g (.int (lo + i)) σ H fun σ2 H2 => tb { D with nx := Pv (i + 1), ct := Pv (i + 1), bk := D.nx } σ2 H2) (hd : ∀ σ H, Pv n σ H → D.nx σ H) : LoopI (Itr lo n) g tb D σ H := for_range Pv h0 hs hd
theorem i_truB {K : PySem.W.Frag} {b : Bool} {H : Hp} {Q : Bool → Hp → Prop} (q : Q b H) : rTru K (.bl b) H Q := ⟨b, rfl, q⟩
end L2

namespace L2
open PySem PySem.Spec PyProof.Rows
/-! ### [a, b, ..][i]: the list is not tracked -/
def rMenu (xs : List V) (y : V) (H : Hp) (Q : VK) : Prop := ∃ i v, y = .int i ∧ atI xs i = some v ∧ Q v H
def tMenu (t : TA) (ti : TE) : TE := fun σ H Q => t σ H fun xs H1 => xs.length ≤ sizeLine ∧ ti σ H1 fun y H2 => rMenu xs y H2 Q
section
variable {X : Cx} {es : List Expr} {b : Expr} {t : TA} {tb : TE} {p1 pos : Pos}
theorem item_raw {X : Cx} {value slice : Expr} {pins : List (Addr × Obj)} {s : Shared} {σ : St} {H : Hp} {p : Addr} {its : List Value} {xs : List V} {i : Int} {tk : Tok} {z : V} {Q : VK} (I : Inv X pins σ H s) (r : Vals xs its) (hz : xs.length ≤ sizeLine)
    (pl : s.heap.IsList p its.toArray) (he : atI xs i = some z) (q : Q z H) (hs : subscripted slice false (.ref p) (.int i tk) = operate [.ref p, .int i tk] (getItem (.ref p) (.int i tk))) :
    wpAny (model X.prog X.w) X.A (subscriptTail value slice (.ref p) (.int i tk)) (EP X pins σ Q) X.xe s := by
  obtain ⟨j, h1, h2, h3, h4, h5⟩ := atI_get he
  obtain ⟨w, ew, rw'⟩ := r.get h2
  have hl := r.length
  have hn := line63
  have fin : EP X pins σ Q w s := ⟨z, H, I, rw', q⟩
  by_cases h0 : 0 ≤ i
  · have hj : i.toNat = j := by
      rw [seqIndex_of h0 h5] at h1
      exact Option.some.inj h1
    exact item_listR pl h0 (by omega) (by rw [hj]; simpa using ew) fin hs
  · have hj : (i + (its.toArray.size : Int)).toNat = j := by
      rw [seqIndex_neg (by omega) h4] at h1
      rw [List.size_toArray, ← hl]
      exact Option.some.inj h1
    exact subscriptTail_builtinR (x := w) pl.typeIs slot_list_getitem.lookup
      (wpAny_getItem_list_neg (Q := fun r s' => r = w ∧ EP X pins σ Q r s') pl (by omega) (by rw [List.size_toArray] <;> omega) (by omega) (by rw [hj]; simpa using ew) ⟨rfl, fin⟩) hs
theorem pe_menu (h : PA X es t) (hb : PE X b tb) (hs : PlainIx b) : PE X (.Subscript (.List es p1) b pos) (tMenu t tb) := by
  intro pins s σ H Q I hq
  refine Subscript_ (wpAny_List_spliced (thn (h p1 pins s σ H _ I hq) fun us s1 ⟨xs, H1, I1, r, z, q⟩ => ⟨by rw [← r.length]; exact z, ?_⟩))
  have hf : H1 s1.heap.objs.size = none := I1.hok.fresh (Nat.le_refl _)
  have I2 := I1.kept (t' := s1.toks) (h' := s1.heap.push { cls := .type "list", data := .seq us.toArray 0 }) (fun b u e => Heap.get?_push_of_some _ e)
  have I3 := I2.pins_of (pins' := pins ++ [(s1.heap.objs.size, { cls := .type "list", data := .seq us.toArray 0 })]) (fun p hp => by
    rcases List.mem_append.mp hp with hp | hp
    · exact I2.pin p (List.mem_append_right _ hp)
    · have e : p = (s1.heap.objs.size, ({ cls := .type "list", data := .seq us.toArray 0 } : Obj)) := by simpa using hp
      subst e
      refine ⟨Heap.get?_push_size _ rfl, hf, Nat.ne_of_gt I1.lt, I1.nofs (Nat.le_refl _), fun v e => ?_⟩
      have e' : Data.seq us.toArray 0 = Data.cell v := e
      cases e')
  refine thn (hb _ _ σ H1 _ I3 q) fun u s2 ⟨y, H2, I4, r4, i, v, hy, hv, qq⟩ => ?_
  subst hy
  obtain ⟨tk, rfl⟩ := r4
  have pn := (I4.pin (s1.heap.objs.size, { cls := .type "list", data := .seq us.toArray 0 }) (by simp)).1
  exact item_raw I4.unpinned r z ⟨_, pn, rfl, _, rfl⟩ hv qq (hs _ _)
end
section
variable {H : Hp} {Q : VK} {i : Int}
theorem i_menu {xs : List V} (h0 : 0 ≤ i) (h1 : i < xs.length) (q : ∀ v, xs[i.toNat]? = some v → Q v H) : rMenu xs (.int i) H Q := by
  have hl : i.toNat < xs.length := by omega
  have := atI_nat (xs := xs) (j := i.toNat) (v := xs[i.toNat]) (by simp [hl])
  rw [Int.toNat_of_nonneg h0] at this
  exact ⟨i, _, rfl, this, q _ (by simp [hl])⟩
theorem i_menu3 {xa xb xc : Int} (h0 : 0 ≤ i) (h1 : i < 3) (q : ∀ z, (i = 0 ∧ z = xa) ∨ (i = 1 ∧ z = xb) ∨ (i = 2 ∧ z = xc) → Q (.int z) H) : rMenu [.int xa, .int xb, .int xc] (.int i) H Q := by
  have hi : i = 0 ∨ i = 1 ∨ i = 2 := by omega
  rcases hi with h | h | h
  · subst h; exact ⟨0, _, rfl, rfl, q _ (by simp)⟩
  · subst h; exact ⟨1, _, rfl, rfl, q _ (by simp)⟩
  · subst h; exact ⟨2, _, rfl, rfl, q _ (by simp)⟩
theorem i_menu4 {xa xb xc xd : Int} (h0 : 0 ≤ i) (h1 : i < 4) (q : ∀ z, (i = 0 ∧ z = xa) ∨ (i = 1 ∧ z = xb) ∨ (i = 2 ∧ z = xc) ∨ (i = 3 ∧ z = xd) → Q (.int z) H) : rMenu [.int xa, .int xb, .int xc, .int xd] (.int i) H Q := by
  have hi : i = 0 ∨ i = 1 ∨ i = 2 ∨ i = 3 := by omega
  rcases hi with h | h | h | h
  · subst h; exact ⟨0, _, rfl, rfl, q _ (by simp)⟩
  · subst h; exact ⟨1, _, rfl, rfl, q _ (by simp)⟩
  · subst h; exact ⟨2, _, rfl, rfl, q _ (by simp)⟩
  · subst h; exact ⟨3, _, rfl, rfl, q _ (by simp)⟩
end
theorem cxOf_K (CX : CXT) (P : Program) (w : World) (K : PySem.W.Frag) (mg : Str → Option Value) (base : Heap) (N : List Str) (qual : Str) (scope : Scope) (f : Addr) (cd : Value) (A : Around) (outer : List Env) (s : Shared) (H : Hp) (E : XK) : (cxOf CX P w K mg base N qual scope f cd A outer s H E).K = K := rfl
end L2

namespace L2
open PySem PySem.Spec PyProof.Rows
/-! ### a statement with a word behind it: what follows is read once -/
def tJoin (t u : TS) : TS := fun D σ H => ∃ Pj : St → Hp → Prop, t { D with nx := Pj } σ H ∧ ∀ σ' H', Pj σ' H' → u D σ' H'
theorem pss_join {X : Cx} {st : Stmt} {rest : List Stmt} {t u : TS} (h1 : PS X st t) (h2 : PSs X rest u) : PSs X (st :: rest) (tJoin t u) := by
  intro pins s σ H D I h
  obtain ⟨Pj, ht, hu⟩ := h
  refine wpAny_execs_cons (thn (h1 pins s σ H _ I ht) fun f s1 q => ?_)
  cases f with
  | next =>
    obtain ⟨σ1, H1, I1, q1⟩ := q
    exact h2 pins s1 σ1 H1 D I1 (hu _ _ q1)
  | brk => exact q
  | cont => exact q
  | ret u => exact q
end L2

namespace L2
open PySem PySem.Spec PyProof.Rows
/-! ### slices of lists of ints -/
theorem take_min {α : Type} (xs : List α) (k : Nat) : xs.take (min k xs.length) = xs.take k := by
  by_cases h : k ≤ xs.length
  · rw [Nat.min_eq_left h]
  · rw [Nat.min_eq_right (by omega), List.take_of_length_le (by omega), List.take_of_length_le (by omega)]
theorem drop_min {α : Type} (xs : List α) (k : Nat) : xs.drop (min k xs.length) = xs.drop k := by
  by_cases h : k ≤ xs.length
  · rw [Nat.min_eq_left h]
  · rw [Nat.min_eq_right (by omega), List.drop_of_length_le (by omega), List.drop_of_length_le (by omega)]
theorem sIx_pos (n d : Nat) {b : Int} (h : 0 ≤ b) : HT.sIx n d (some b) = min b.toNat n := by
  have := HT.sIx_nat n d b.toNat
  rwa [Int.toNat_of_nonneg h] at this
theorem cut_to {xs : List V} {b : Int} (h : 0 ≤ b) : cutV xs none (some b) = xs.take b.toNat := by
  unfold cutV
  rw [HT.sIx_none, sIx_pos _ _ h, Nat.sub_zero, List.drop_zero, take_min]
theorem cut_from {xs : List V} {a : Int} (h : 0 ≤ a) : cutV xs (some a) none = xs.drop a.toNat := by
  unfold cutV
  rw [HT.sIx_none, sIx_pos _ _ h, drop_min, List.take_of_length_le]
  rw [List.length_drop]; omega
theorem cut_mid {xs : List V} {a b : Int} (h : 0 ≤ a) (h2 : 0 ≤ b) : cutV xs (some a) (some b) = (xs.drop a.toNat).take (b.toNat - a.toNat) := by
  unfold cutV
  rw [sIx_pos _ _ h, sIx_pos _ _ h2, drop_min]
  by_cases e : b.toNat ≤ xs.length
  · by_cases e2 : a.toNat ≤ xs.length
    · rw [Nat.min_eq_left e, Nat.min_eq_left e2]
    · rw [List.drop_of_length_le (by omega)]; simp
  · rw [Nat.min_eq_right (by omega)]
    by_cases e2 : a.toNat ≤ xs.length
    · rw [Nat.min_eq_left e2, List.take_of_length_le (by rw [List.length_drop]; omega), List.take_of_length_le (by rw [List.length_drop]; omega)]
    · rw [List.drop_of_length_le (by omega)]; simp
section
variable {K : PySem.W.Frag} {H : Hp} {Q : VK} {a : Addr} {ns : List Int}
theorem i_slFrom {b : Int} (h : SqL K H a (iL ns)) (hb : 0 ≤ b) (q : ∀ p, H p = none → Q (.ref p) (upd H p (.lst (iL (ns.drop b.toNat))))) : rSlL K (.ref a) (some b) none H Q :=
  ⟨a, _, rfl, h, fun p hp => by rw [cut_from hb, ← List.map_drop]; exact q p hp⟩
theorem i_slMid {b c : Int} (h : SqL K H a (iL ns)) (hb : 0 ≤ b) (hc : 0 ≤ c) (q : ∀ p, H p = none → Q (.ref p) (upd H p (.lst (iL ((ns.drop b.toNat).take (c.toNat - b.toNat)))))) : rSlL K (.ref a) (some b) (some c) H Q :=
  ⟨a, _, rfl, h, fun p hp => by rw [cut_mid hb hc, ← List.map_drop, ← List.map_take]; exact q p hp⟩
end
end L2

set_option Elab.async false
set_option linter.all false
set_option maxRecDepth 100000
namespace L2
open PySem PySem.Spec PyProof.Rows

/-! ### an untracked list of ours is tracked from now on -/
theorem Inv.track {X : Cx} {pins : List (Addr × Obj)} {σ : St} {H : Hp} {s : Shared} {D : Addr} {o : HO} (I : Inv X pins σ H s) (hn : H D = none) (hL : D ≠ X.env.locals) (h1 : X.s₀.heap.objs.size ≤ D)
    (h2 : ∀ x c, X.env.cells.lookup x = some c → c ≠ D) (h3 : ∀ p ∈ X.pn ++ pins, p.1 ≠ D) (new : ObjOk X.prog X.w (upd H D o) s.heap D o) : Inv X pins σ (upd H D o) s := by
  have up : ∀ b u, H b = some u → upd H D o b = some u := fun b u e => by rw [upd_ne (ne_of_none e hn)]; exact e
  have un : ∀ b, b ≠ D → H b = none → upd H D o b = none := fun b hb e => by rw [upd_ne hb]; exact e
  refine ⟨I.ok, I.os, I.bare, ⟨I.base.keep, I.base.slot, fun b ob e n hx => un b (Nat.ne_of_lt (Nat.lt_of_lt_of_le (Heap.lt_size e) h1)) (I.base.free b ob e n hx), I.base.there, fun b xs e => up _ _ (I.base.tups b xs e), fun b ob u e => up _ _ (I.base.frzs b ob u e), fun b ps e => ?_⟩,
    I.loc, I.cell, un _ (Ne.symm hL) I.free, fun x c e => un _ (h2 x c e) (I.freeC x c e), fun p hp => ?_, fun b u e => ?_, I.len⟩
  · obtain ⟨m, e'⟩ := I.base.tbls b ps e
    exact ⟨m, up _ _ e'⟩
  · obtain ⟨e, n, r⟩ := I.pin p hp
    exact ⟨e, un _ (h3 p hp) n, r⟩
  · by_cases hb : b = D
    · subst hb
      rw [upd_same] at e
      cases e
      exact new
    · rw [upd_ne hb] at e
      exact (I.hok b u e).stay (fun _ _ _ q => q) (fun c q => up _ _ q) fun c xs q => up _ _ q

/-! ### the closure of a comprehension's block -/
def clOf (env : Env) : List (Str × NameKind) → List (Str × Addr) → List (Str × Addr)
  | [], acc => acc
  | (n, k) :: r, acc => clOf env r (if (k == .free) = true then (n, (env.cells.lookup n).getD 0) :: acc else acc)
theorem closure_go {env : Env} : ∀ (names : List (Str × NameKind)) (acc : List (Str × Addr)), (∀ y ∈ names, y.2 = .free → ∃ c, env.cells.lookup y.1 = some c) →
    (forIn names acc fun (x : Str × NameKind) (r : List (Str × Addr)) => match x with
      | (name, kind) => if (kind == .free) = true then do
          let a ← cellOf env name
          pure (ForInStep.yield ((name, a) :: r))
        else pure (ForInStep.yield r) : Sem (List (Str × Addr))) = pure (clOf env names acc)
  | [], acc, _ => rfl
  | (n, k) :: r, acc, h => by
    rw [List.forIn_cons, clOf]
    by_cases hk : (k == NameKind.free) = true
    · obtain ⟨c, hc⟩ := h (n, k) (List.mem_cons_self) (by simpa using hk)
      have hc' : env.cells.lookup n = some c := hc
      simp only [hk, if_true, cellOf, hc', Option.getD_some]
      exact closure_go r _ fun y hy => h y (List.mem_cons_of_mem _ hy)
    · simp only [hk, Bool.false_eq_true, if_false]
      exact closure_go r _ fun y hy => h y (List.mem_cons_of_mem _ hy)
theorem closure_eq {env : Env} {scope : Scope} (h : ∀ y ∈ scope.names, y.2 = .free → ∃ c, env.cells.lookup y.1 = some c) : closureFor scope env = pure (clOf env scope.names []) := by
  have q := closure_go scope.names [] h
  unfold closureFor
  exact (congrArg (fun z => z >>= fun r => pure r) q).trans rfl
theorem clOf_get {env : Env} {x : Str} {c : Addr} : ∀ (names : List (Str × NameKind)) (acc : List (Str × Addr)), (∀ y ∈ names, y.2 = .free → ∃ c, env.cells.lookup y.1 = some c) → (∀ x c, acc.lookup x = some c → env.cells.lookup x = some c) →
    (clOf env names acc).lookup x = some c → env.cells.lookup x = some c
  | [], acc, _, ha, e => ha x c e
  | (n, k) :: r, acc, h, ha, e => by
    rw [clOf] at e
    refine clOf_get r _ (fun y hy => h y (List.mem_cons_of_mem _ hy)) ?_ e
    intro y d hd
    by_cases hk : (k == NameKind.free) = true
    · rw [if_pos hk] at hd
      obtain ⟨c', hc⟩ := h (n, k) List.mem_cons_self (by simpa using hk)
      have hc' : env.cells.lookup n = some c' := hc
      rw [List.lookup_cons] at hd
      cases hy : y == n with
      | true =>
        rw [hy] at hd
        have e1 : y = n := by simpa using hy
        subst e1
        rw [hc'] at hd ⊢
        exact hd
      | false =>
        rw [hy] at hd
        exact ha y d hd
    · rw [if_neg hk] at hd
      exact ha y d hd
theorem clOf_has {env : Env} {x : Str} : ∀ (names : List (Str × NameKind)) (acc : List (Str × Addr)), ((x, NameKind.free) ∈ names ∨ ∃ c, acc.lookup x = some c) → ∃ c, (clOf env names acc).lookup x = some c
  | [], acc, h => by
    rcases h with h | h
    · exact absurd h (by simp)
    · exact h
  | (n, k) :: r, acc, h => by
    rw [clOf]
    refine clOf_has r _ ?_
    rcases h with h | ⟨c, h⟩
    · rcases List.mem_cons.mp h with e | e
      · cases e
        exact .inr ⟨_, by rw [if_pos (by rfl), List.lookup_cons, beq_self_eq_true]⟩
      · exact .inl e
    · refine .inr ?_
      by_cases hk : (k == NameKind.free) = true
      · rw [if_pos hk, List.lookup_cons]
        cases x == n with
        | true => exact ⟨_, rfl⟩
        | false => exact ⟨c, h⟩
      · rw [if_neg hk]; exact ⟨c, h⟩
/-- what a relabelled scope says of a name -/
theorem relabel_get {scope : Scope} {env : Env} {x : Str} {k : NameKind} (h : (relabel scope env).names.lookup x = some k) : (x, k) ∈ scope.names ∨ (k = .cell ∧ (x, NameKind.free) ∈ scope.names) := by
  have m := PySem.mem_of_lookup h
  unfold relabel at m
  obtain ⟨⟨n, k0⟩, hm, e⟩ := List.mem_map.mp m
  dsimp only at e
  split at e
  · rename_i hc
    cases e
    have : k0 = .free := by
      have := (Bool.and_eq_true _ _ ▸ (Bool.and_eq_true _ _ ▸ hc).1 : _ ∧ _).1
      simpa using this
    subst this
    exact .inr ⟨rfl, hm⟩
  · cases e
    exact .inl hm

theorem relabel_freeN {env : Env} : ∀ {names : List (Str × NameKind)} {x : Str}, names.lookup x = some .free →
    (names.map fun (n, k) => if (k == NameKind.free && env.scope.kind == .function && env.kindOf n == some .cell) then (n, NameKind.cell) else (n, k)).lookup x = some .cell ∨
    (names.map fun (n, k) => if (k == NameKind.free && env.scope.kind == .function && env.kindOf n == some .cell) then (n, NameKind.cell) else (n, k)).lookup x = some .free
  | [], _, h => by simp at h
  | (n, k) :: r, x, h => by
    have ih := @relabel_freeN env r x
    show List.lookup x ((if (k == NameKind.free && env.scope.kind == .function && env.kindOf n == some .cell) = true then (n, NameKind.cell) else (n, k)) :: _) = _ ∨ List.lookup x ((if (k == NameKind.free && env.scope.kind == .function && env.kindOf n == some .cell) = true then (n, NameKind.cell) else (n, k)) :: _) = _
    cases hx : x == n with
    | true =>
      simp only [List.lookup_cons, hx] at h
      cases h
      by_cases hc : (NameKind.free == NameKind.free && env.scope.kind == .function && env.kindOf n == some .cell) = true
      · rw [if_pos hc]; left; simp [List.lookup_cons, hx]
      · rw [if_neg hc]; right; simp [List.lookup_cons, hx]
    | false =>
      simp only [List.lookup_cons, hx] at h
      by_cases hc : (k == NameKind.free && env.scope.kind == .function && env.kindOf n == some .cell) = true
      · rw [if_pos hc]; simp only [List.lookup_cons, hx]; exact ih h
      · rw [if_neg hc]; simp only [List.lookup_cons, hx]; exact ih h
theorem relabel_free {scope : Scope} {env : Env} {x : Str} (h : scope.names.lookup x = some .free) : (relabel scope env).names.lookup x = some .cell ∨ (relabel scope env).names.lookup x = some .free := relabel_freeN h

/-! ### the block's context -/
def cxC (X : Cx) (scope : Scope) (C : Addr) (N : List Str) (s₂ : Shared) (H₂ : Hp) (ex : List Addr) : Cx :=
  { X with N := N, s₀ := s₂, H₀ := H₂, env := compEnvC scope (clOf X.env scope.names []) C X.env, outer := X.stack, stack := X.stack, ex := ex, fn := fun _ => false, pn := [], xe := fun _ _ => False }
/-- the names: a slot of the def's for each that is free in the block -/
def FrOk (X : Cx) (scope : Scope) : List Str → List (Option Nat) → Prop
  | [], [] => True
  | _ :: N, none :: fr => FrOk X scope N fr
  | x :: N, some j :: fr => (X.N[j]? = some x ∧ (X.env.kindOf x = some .cell ∨ X.env.kindOf x = some .free) ∧ scope.names.lookup x = some .free) ∧ FrOk X scope N fr
  | _, _ => False
def stC (fr : List (Option Nat)) (σ : St) : St := fr.map fun o => o.bind fun j => (σ[j]?).join
structure CompOk (X : Cx) (scope : Scope) (N : List Str) (fr : List (Option Nat)) : Prop where
  kind : scope.kind = .function
  ncell : ∀ y ∈ scope.names, y.2 ≠ .cell
  names : ∀ y ∈ scope.names, y.2 = .local → scope.names.lookup y.1 = some .local
  frees : ∀ y ∈ scope.names, y.2 = .free → X.env.kindOf y.1 = some .cell ∨ X.env.kindOf y.1 = some .free
  fr : FrOk X scope N fr
theorem FrOk.len {X : Cx} {scope : Scope} : ∀ {N : List Str} {fr : List (Option Nat)}, FrOk X scope N fr → fr.length = N.length
  | [], [], _ => rfl
  | _ :: N, none :: fr, h => by simp [FrOk.len (N := N) (fr := fr) h]
  | _ :: N, some j :: fr, h => by simp [FrOk.len (N := N) (fr := fr) h.2]
  | [], _ :: _, h => h.elim
  | _ :: _, [], h => h.elim
theorem FrOk.get {X : Cx} {scope : Scope} : ∀ {N : List Str} {fr : List (Option Nat)} {i j : Nat} {x : Str}, FrOk X scope N fr → N[i]? = some x → fr[i]? = some (some j) → X.N[j]? = some x ∧ (X.env.kindOf x = some .cell ∨ X.env.kindOf x = some .free) ∧ scope.names.lookup x = some .free
  | [], _, i, j, x, h, e, _ => by simp at e
  | y :: N, [], _, _, _, h, _, _ => h.elim
  | y :: N, none :: fr, 0, j, x, h, e, e2 => by simp at e2
  | y :: N, none :: fr, i + 1, j, x, h, e, e2 => FrOk.get (N := N) (fr := fr) (i := i) h (by simpa using e) (by simpa using e2)
  | y :: N, some k :: fr, 0, j, x, h, e, e2 => by
    simp at e e2
    subst e e2
    exact h.1
  | y :: N, some k :: fr, i + 1, j, x, h, e, e2 => FrOk.get (N := N) (fr := fr) (i := i) h.2 (by simpa using e) (by simpa using e2)
theorem stC_get {fr : List (Option Nat)} {σ : St} {i : Nat} {v : V} (h : (stC fr σ)[i]? = some (some v)) : ∃ j, fr[i]? = some (some j) ∧ σ[j]? = some (some v) := by
  unfold stC at h
  rw [List.getElem?_map] at h
  cases e : fr[i]? with
  | none => rw [e] at h; cases h
  | some o =>
    rw [e] at h
    cases o with
    | none => cases h
    | some j =>
      refine ⟨j, rfl, ?_⟩
      have h' : (σ[j]?).join = some v := by simpa using h
      cases e2 : σ[j]? with
      | none => rw [e2] at h'; cases h'
      | some w => rw [e2] at h'; cases w with
        | none => cases h'
        | some z => cases h'; rfl
section
variable {X : Cx} {scope : Scope} {N : List Str} {fr : List (Option Nat)}
theorem CompOk.cells (c : CompOk X scope N fr) (ok : X.Ok) : ∀ y ∈ scope.names, y.2 = .free → ∃ c, X.env.cells.lookup y.1 = some c := fun y hy e => ok.has y.1 (c.frees y hy e)
theorem CompOk.get (c : CompOk X scope N fr) (ok : X.Ok) {x : Str} {a : Addr} (h : (clOf X.env scope.names []).lookup x = some a) : X.env.cells.lookup x = some a :=
  clOf_get scope.names [] (c.cells ok) (fun _ _ z => by simp at z) h
theorem comp_ok {pins : List (Addr × Obj)} {σ : St} {H : Hp} {s₂ : Shared} {C : Addr} {fp : List Addr} (c : CompOk X scope N fr) (I : Inv X pins σ H s₂) (hC : s₂.heap.objs.size ≤ C) (hfp : ∀ b ∈ fp, FpOk X pins H b ∧ b < s₂.heap.objs.size) :
    (cxC X scope C N s₂ H fp).Ok where
  mod := I.ok.mod
  kind := c.kind
  glob := I.ok.glob
  blt := I.ok.blt
  above := hC
  inj := fun x y a h1 h2 => I.ok.inj x y a (c.get I.ok h1) (c.get I.ok h2)
  has := fun x h => by
    have hm : (x, NameKind.free) ∈ scope.names := by
      rcases h with h | h
      · rcases relabel_get h with z | ⟨_, z⟩
        · exact absurd rfl (c.ncell _ z)
        · exact z
      · rcases relabel_get h with z | ⟨z, _⟩
        · exact z
        · cases z
    exact clOf_has scope.names [] (.inl hm)
  cab := fun x a h => by cases h
  hd := I.ok.hd
  frames := I.ok.frames
  stk := .inl rfl
  exf := fun b hb => ⟨Nat.ne_of_lt (Nat.lt_of_lt_of_le (hfp b hb).2 hC), fun x a h => (hfp b hb).1.2.2.2.2.1 x a (c.get I.ok h)⟩
  bs := I.bs
  bsz := Nat.le_trans I.ok.bsz I.sz
  noex := fun b o e hb => by
    rcases (hfp b hb).1.2.2.2.1 with z | z
    · exact I.ok.noex b o e z
    · have h1 : b < X.base.objs.size := Heap.lt_size e
      have h2 := I.ok.bsz
      exact absurd (Nat.lt_of_lt_of_le h1 (Nat.le_trans h2 z)) (Nat.lt_irrefl _)
  exfs := fun b hb z => by
    rcases List.mem_cons.mp (I.stkSub b z) with e | e
    · exact (hfp b hb).1.2.1 e
    · exact (hfp b hb).1.2.2.1 e
  funs := I.stack
  frf := I.stkFree
theorem comp_inv {pins : List (Addr × Obj)} {σ : St} {H : Hp} {s₂ : Shared} {C : Addr} {fp : List Addr} {h₄ : Heap} {tk : Nat} (c : CompOk X scope N fr) (I : Inv X pins σ H s₂) (hC : s₂.heap.objs.size ≤ C) (hfp : ∀ b ∈ fp, FpOk X pins H b ∧ b < s₂.heap.objs.size)
    (hk : ∀ b o, s₂.heap.get? b = some o → h₄.get? b = some o) (hn : h₄.Ns C fun _ => none) : Inv (cxC X scope C N s₂ H fp) [] (stC fr σ) H { s₂ with heap := h₄, toks := tk } := by
  refine ⟨comp_ok c I hC hfp, rfl, I.bare, Un.kept hk, ⟨_, hn, fun i x v e1 e2 e3 => ?_⟩, fun x a e => ?_, I.hok.fresh hC, fun x a e => I.freeC x a (c.get I.ok e), fun p hp => absurd (show p ∈ ([] : List (Addr × Obj)) from hp) (by simp), I.hok.kept hk, ?_⟩
  · obtain ⟨j, f1, f2⟩ := stC_get e2
    obtain ⟨g1, g2, g3⟩ := c.fr.get e1 f1
    obtain ⟨m, hm, hl⟩ := I.loc
    have vis : Vis X.env.scope x := by
      rcases g2 with g | g
      · exact .inr (.inl g)
      · exact .inr (.inr g)
    obtain ⟨u, ru, lk⟩ := hl j x v g1 f2 vis
    refine ⟨u, ru, ?_⟩
    rcases lk with ⟨k, _⟩ | ⟨_, a, ea, o, ho, hd⟩
    · rcases g2 with g | g <;> (rw [k] at g; cases g)
    · obtain ⟨a', ea'⟩ := clOf_has (env := X.env) scope.names [] (.inl (PySem.mem_of_lookup g3))
      have e5 := c.get I.ok ea'
      rw [ea] at e5
      cases e5
      have kd : (cxC X scope C N s₂ H fp).env.kindOf x = some .cell ∨ (cxC X scope C N s₂ H fp).env.kindOf x = some .free := relabel_free g3
      exact .inr ⟨kd, a, ea', o, hk _ _ ho, hd⟩
  · obtain ⟨v, o, ho, hd⟩ := I.cell x a (c.get I.ok e)
    exact ⟨v, o, hk _ _ ho, hd⟩
  · unfold stC
    rw [List.length_map]
    exact c.fr.len
end

section
variable {prog : Program} {w : World} {A : Around} {E : Value → Shared → Prop} {R : Result → Shared → Prop} {s : Shared}
/-- a turn of the block's loop, whatever the target is -/
theorem compLoop_any {elt target iter : Expr} {ifs : List Expr} {scope : Scope} {pos : Pos} {it acc : Value} {env : Env} (I : Nat → Shared → Prop)
    (turn : ∀ n s, I n s → wpAny (model prog w) A (pyNext it) (fun r s₁ => match r with
      | none => R (.ok .next) s₁
      | some v => wpAny (model prog w) A (letOwnedTupleGo target it v) (fun _ s₀ => wpAny (model prog w) A (assign target env v) (fun _ s₂ =>
          wpAny (model prog w) A (forIn ifs true fun c r => if r = true then do let ok ← isTrue c env (eval c env); pure (ForInStep.yield ok) else pure (ForInStep.yield r)) (fun ok s₃ =>
            if ok = true then wpAny (model prog w) A (eval elt env) (fun x s₄ =>
              wpAny (model prog w) A (call (.builtin "list.append") [acc, x]) (fun _ s₅ => ∃ m, m < n ∧ I m s₅) (fun _ _ => False) s₄) (fun _ _ => False) s₃
            else ∃ m, m < n ∧ I m s₃) (fun _ _ => False) s₂) (fun _ _ => False) s₀) (fun _ _ => False) s₁) (fun _ _ => False) s)
    (n : Nat) (h : I n s) :
    codeAny (model prog w) A (.compLoop (.ListComp elt [⟨target, iter, ifs, 0⟩] scope pos) 0 it acc env) R s := by
  refine codeAny_loop rfl I (fun n s hI => ?_) n h
  show wpAny _ A ((compTurn (.ListComp elt [⟨target, iter, ifs, 0⟩] scope pos) 0 it acc env).onRaise (fun x => do noteFrame x env; theTreesLotGoes x)) _ _ s
  refine wpAny_noted ?_
  rw [compTurn_list]
  have nf : ∀ {α : Type} {m : Sem α} {Q : α → Shared → Prop} {F : Value → Shared → Prop} {s : Shared}, wpAny (model prog w) A m Q (fun _ _ => False) s → wpAny (model prog w) A m Q F s := fun h => wpAny_mono h (fun _ _ x => x) fun _ _ x => x.elim
  refine wpAny_bind (wpAny_standAt (wpAny_bind (wpAny_mono (nf (turn n s hI)) (fun r s₁ h₁ => ?_) fun _ _ h' => h')))
  cases r with
  | none => exact wpAny_pure h₁
  | some v =>
    refine wpAny_bind (wpAny_mono (nf h₁) (fun _ s₀ h₀ => ?_) fun _ _ h' => h')
    refine wpAny_bind (wpAny_mono (nf h₀) (fun _ s₂ h₂ => wpAny_bind (wpAny_mono (nf h₂) (fun ok s₃ h₃ => ?_) fun _ _ h' => h')) fun _ _ h' => h')
    cases ok with
    | false => exact wpAny_pure ⟨rfl, h₃⟩
    | true =>
      exact wpAny_bind (wpAny_bind (wpAny_mono (nf h₃) (fun x s₄ h₄ => wpAny_bind (wpAny_mono (nf h₄) (fun _ s₅ h₅ => wpAny_pure (wpAny_pure ⟨rfl, h₅⟩)) fun _ _ h' => h')) fun _ _ h' => h'))
end

/-! ### targets that leave the free names -/
def Wk (fr : List (Option Nat)) (σ σ2 : St) : Prop := σ2.length = σ.length ∧ ∀ (i j : Nat), fr[i]? = some (some j) → σ2[i]? = σ[i]?
def GW (fr : List (Option Nat)) (g : TG) : Prop := ∀ x σ H (Q Q' : St → Hp → Prop), (∀ σ2 H2, Wk fr σ σ2 → Q σ2 H2 → Q' σ2 H2) → g x σ H Q → g x σ H Q'
def GWs (fr : List (Option Nat)) (g : TGs) : Prop := ∀ x σ H (Q Q' : St → Hp → Prop), (∀ σ2 H2, Wk fr σ σ2 → Q σ2 H2 → Q' σ2 H2) → g x σ H Q → g x σ H Q'
theorem gw_name {fr : List (Option Nat)} {i : Nat} (h : fr[i]? = some none) : GW fr (gName i) := fun x σ H Q Q' k q => by
  refine k _ _ ⟨by simp, fun a j e => ?_⟩ q
  have : i ≠ a := fun z => by subst z; rw [h] at e; cases e
  rw [List.getElem?_set_ne this]
/-! ### the tests -/
def PIfs (X : Cx) (ifs : List Expr) (t : TT) : Prop :=
  ∀ (pins : List (Addr × Obj)) (s : Shared) (σ : St) (H : Hp) (Q : Bool → Hp → Prop), Inv X pins σ H s → t σ H Q →
    wpAny (model X.prog X.w) X.A (forIn ifs true fun c r => if r = true then do let ok ← isTrue c X.env (eval c X.env); pure (ForInStep.yield ok) else pure (ForInStep.yield r)) (TP X pins σ Q) X.xe s
def tNoIf : TT := fun _ H Q => Q true H
theorem pifs_nil {X : Cx} : PIfs X [] tNoIf := fun _ _ _ H _ I h => wpAny_tests_nil ⟨H, I, h⟩
theorem pifs_one {X : Cx} {c : Expr} {t : TT} (h : PT X c t) : PIfs X [c] t := fun pins s σ H Q I q => wpAny_tests_one (h pins s σ H Q I q)

/-! ### the comprehension -/
def CompI (J : It) (g : TG) (ti : TT) (te : TE) (σc : St) (H1 : Hp) (Q : VK) : Prop := ∃ W : Nat → Nat → List V → Hp → Prop, (∃ m, W 0 m [] H1) ∧ ∀ i m ys H, W i m ys H → ys.length < sizeLine ∧
  ((J.stop i H ∧ ∀ l, H l = none → Q (.ref l) (upd H l (.lst ys))) ∨ (J.go i H ∧ ∃ M : List V → Hp → Prop, (∀ ys' H', M ys' H' → ∃ m', m' < m ∧ W (i + 1) m' ys' H') ∧
    ∀ x H', J.yld i H x H' → g x σc H' fun σ2 H2 => ti σ2 H2 fun b H3 => if b = true then te σ2 H3 fun y H4 => M (ys ++ [y]) H4 else M ys H3))
def tComp (fr : List (Option Nat)) (wi : TI) (g : TG) (ti : TT) (te : TE) : TE := fun σ H Q => wi σ H fun J H1 => CompI J g ti te (stC fr σ) H1 Q
structure Aside (X : Cx) (pins : List (Addr × Obj)) (H : Hp) (C : Addr) : Prop where
  fr : H C = none
  ne : C ≠ X.env.locals
  ab : X.s₀.heap.objs.size ≤ C
  cl : ∀ x c, X.env.cells.lookup x = some c → c ≠ C
  pn : ∀ p ∈ X.pn ++ pins, p.1 ≠ C
theorem Inv.aside {X : Cx} {pins : List (Addr × Obj)} {σ : St} {H H' : Hp} {s : Shared} {C : Addr} (I : Inv X pins σ H s) (hC : s.heap.objs.size ≤ C) (hn : H' C = none) : Aside X pins H' C := by
  obtain ⟨a, b, c, d, e, f⟩ := I.fpOk hC hn
  exact ⟨hn, b, Nat.le_trans I.sz hC, e, f⟩
def lob (us : List Value) (n : Nat) : Obj := { cls := .type "list", dict := none, data := .seq us.toArray n }
section
variable {X : Cx} {scope : Scope} {N : List Str} {fr : List (Option Nat)} {tg iter elt : Expr} {ifs : List Expr} {pos : Pos} {J : It} {g : TG} {ti : TT} {te : TE}
theorem comp_core {pins : List (Addr × Obj)} {σ : St} {H : Hp} {s₂ : Shared} {it : Addr} {fp : List Addr} {tn : Nat → Heap → Prop} {Q : VK} {E : Value → Shared → Prop} (c : CompOk X scope N fr) (hc : X.calm = true) (I : Inv X pins σ H s₂)
    (T : Turn X.prog X.w X.K tg J fp it tn) (st : tn 0 s₂.heap) (hfp : ∀ b ∈ fp, FpOk X pins H b)
    (hg : ∀ C, PG (cxC X scope C N s₂ H fp) tg g) (hi : ∀ C, PIfs (cxC X scope C N s₂ H fp) ifs ti) (he : ∀ C, PE (cxC X scope C N s₂ H fp) elt te) (gw : GW fr g) (hq : CompI J g ti te (stC fr σ) H Q)
    {RR : Value → Addr → Result → Shared → Prop}
    (hRR : ∀ D C H' ys s', Inv X pins σ (upd H' D (.lst ys)) s' → Aside X pins (upd H' D (.lst ys)) C → (∃ m, s'.heap.Ns C m) → Q (.ref D) (upd H' D (.lst ys)) → RR (.ref D) C (.ok .next) s') :
    wpAny (model X.prog X.w) X.A (newList []) (fun acc s₃ => wpAny (model X.prog X.w) X.A (newFunctionEnv scope X.env.globals (clOf X.env scope.names []) [] X.env.qual none .none (some X.env)) (fun cenv s₄ =>
      codeAny (model X.prog X.w) X.A (.compStart (.ListComp elt [⟨tg, iter, ifs, 0⟩] scope pos) 0 (.ref it) acc { cenv with scope := relabel scope X.env }) (RR acc cenv.locals) s₄) E s₃) E s₂ := by
  refine wpAny_newObj_type (wpAny_newFunctionEnv c.ncell (by intro y hy; simp at hy) (fun h₁ hns₁ hsb₁ => ?_) c.kind)
  dsimp only at hns₁ hsb₁ ⊢
  generalize hH2 : s₂.heap.push { cls := .type "list", dict := none, data := .seq ([] : List Value).toArray } = H2 at hns₁ hsb₁ ⊢
  have hC : H2.objs.size = s₂.heap.objs.size + 1 := by rw [← hH2, Heap.size_push]
  have hCle : s₂.heap.objs.size ≤ H2.objs.size := by rw [hC]; exact Nat.le_succ _
  have hDC : s₂.heap.objs.size ≠ H2.objs.size := by rw [hC]; exact Nat.ne_of_lt (Nat.lt_succ_self _)
  have old : ∀ b o, s₂.heap.get? b = some o → h₁.get? b = some o := fun b o e => hsb₁.extBut b o (by rw [hC]; exact Nat.ne_of_lt (Nat.lt_succ_of_lt (Heap.lt_size e))) (Heap.get?_push_of_some _ (hH2 ▸ Heap.get?_push_of_some _ e))
  have hacc : h₁.get? s₂.heap.objs.size = some (lob [] 0) := hsb₁.extBut _ _ hDC (Heap.get?_push_of_some _ (hH2 ▸ Heap.get?_push_size _ rfl))
  generalize hD : s₂.heap.objs.size = D at *
  generalize hCC : H2.objs.size = C at *
  have hfp2 : ∀ b ∈ fp, FpOk X pins H b ∧ b < s₂.heap.objs.size := fun b hb => ⟨hfp b hb, by obtain ⟨o, e, _⟩ := T.obj _ _ st b hb; exact Heap.lt_size e⟩
  have hns₂ : h₁.Ns C fun _ => none := hns₁
  have I0 : Inv (cxC X scope C N s₂ H fp) [] (stC fr σ) H { s₂ with heap := h₁, toks := s₂.toks + ([] : List (Str × Value)).length } := comp_inv c I (by rw [hD]; exact hCle) hfp2 old hns₂
  have st₁ : tn 0 h₁ := T.keep _ _ _ st fun b hb o e => old b o e
  have hDn : ∀ b ∈ fp, b ≠ D := fun b hb => by rw [← hD]; exact Nat.ne_of_lt (hfp2 b hb).2
  -- what is true of the list that grows
  have dAs : ∀ {H' : Hp}, H' D = none → (D ≠ (cxC X scope C N s₂ H fp).env.locals ∧ (cxC X scope C N s₂ H fp).s₀.heap.objs.size ≤ D ∧ ∀ x a, (cxC X scope C N s₂ H fp).env.cells.lookup x = some a → a ≠ D) := fun hn => ⟨hDC, Nat.le_of_eq hD, fun x a e z => by
    obtain ⟨v, o, ho, _⟩ := I.cell x a (c.get I.ok e)
    have := Heap.lt_size ho
    rw [z, ← hD] at this
    exact Nat.lt_irrefl _ this⟩
  obtain ⟨W, ⟨m0, w0⟩, turn⟩ := hq
  have loop : codeAny (model X.prog X.w) X.A (.compLoop (.ListComp elt [⟨tg, iter, ifs, 0⟩] scope pos) 0 (.ref it) (.ref D) (compEnvC scope (clOf X.env scope.names []) C X.env)) (RR (.ref D) C) { s₂ with heap := h₁, toks := s₂.toks + ([] : List (Str × Value)).length } := by
    refine compLoop_any (fun n s' => ∃ i ys us k H', Inv (cxC X scope C N s₂ H fp) [] (stC fr σ) H' s' ∧ tn i s'.heap ∧ (∀ b ∈ fp, H' b = none) ∧ s'.heap.get? D = some (lob us k) ∧ Vals ys us ∧ H' D = none ∧ W i n ys H') ?_ m0
      ⟨0, [], [], 0, H, I0, st₁, fun b hb => (hfp b hb).1, hacc, .nil, by rw [← hD]; exact I.hok.fresh (Nat.le_refl _), w0⟩
    rintro n s3 ⟨i, ys, us, k, H3, I3, st3, fr3, hD3, rv3, hDn3, w3⟩
    obtain ⟨hlen, alt⟩ := turn i n ys H3 w3
    obtain ⟨d1, d2, d3⟩ := dAs hDn3
    -- the list pinned
    have I3p : Inv (cxC X scope C N s₂ H fp) [(D, lob us k)] (stC fr σ) H3 s3 := I3.pins_of fun p hp => by
      have e : p = (D, lob us k) := by simpa using hp
      subst e
      refine ⟨hD3, hDn3, d1, fun z => ?_, fun v e => by cases (show Data.seq us.toArray k = Data.cell v from e)⟩
      have z' : D ∈ frs X.stack := z
      rcases List.mem_cons.mp (I.stkSub D z') with e | e
      · have := I.lt
        rw [← e, ← hD] at this
        exact Nat.lt_irrefl _ this
      · exact I.nofs (Nat.le_of_eq hD) e
    have stat : ∀ {H' : Hp}, (∀ b ∈ fp, H' b = none) → ∀ b ∈ fp, FpOk (cxC X scope C N s₂ H fp) [(D, lob us k)] H' b := fun hn b hb => by
      obtain ⟨q1, q2⟩ := hfp2 b hb
      refine ⟨hn b hb, Nat.ne_of_lt (Nat.lt_of_lt_of_le q2 (by rw [hD]; exact hCle)), fun z => ?_, .inl hb, fun x a e => q1.2.2.2.2.1 x a (c.get I.ok e), fun p hp => ?_⟩
      · exact (comp_ok c I (by rw [hD]; exact hCle) hfp2).exfs b hb z
      · have e : p = (D, lob us k) := by simpa [cxC] using hp
        subst e
        exact (hDn b hb).symm
    rcases alt with ⟨stop, qn⟩ | ⟨go, M, hM, step⟩
    · refine thn (T.done (cxC X scope C N s₂ H fp) rfl rfl rfl hc i _ s3 _ H3 _ I3p (stat fr3) st3 stop) fun r s4 ⟨hr, I4⟩ => ?_
      subst hr
      have pD := (I4.pin (D, lob us k) (by simp)).1
      have I4' : Inv (cxC X scope C N s₂ H fp) [] (stC fr σ) H3 s4 := I4.pins_of fun p hp => absurd hp (by simp)
      have IX : Inv X pins σ H3 s4 := I.call' I4'.os I4'.base I4'.hok I4'.bare fun b hb => by
        obtain ⟨q1, q2, q3, q4, q5, q6⟩ := hfp b hb
        exact ⟨q4, q2, q5, q6⟩
      have aD : Aside X pins H3 D := I.aside (Nat.le_of_eq hD) hDn3
      have IT : Inv X pins σ (upd H3 D (.lst ys)) s4 := IX.track hDn3 aD.ne aD.ab aD.cl aD.pn ⟨Nat.le_of_lt hlen, us, k, rv3, pD⟩
      refine hRR D C H3 ys s4 IT ?_ ?_ (qn D hDn3)
      · refine I.aside (by rw [hD]; exact hCle) ?_
        rw [upd_ne (Ne.symm hDC)]
        exact I4'.free
      · obtain ⟨m, hm, _⟩ := I4'.loc
        exact ⟨m, hm⟩
    · refine thn (T.item (cxC X scope C N s₂ H fp) rfl rfl rfl hc i _ s3 _ H3 _ I3p (stat fr3) st3 go) fun r s4 ⟨u, hr, h4⟩ => ?_
      subst hr
      refine thn h4 fun _ s5 ⟨x, H5, I5, r5, y5, st5, fr5⟩ => ?_
      have I5' := I5.pinned (stat fr5) (T.obj _ _ st5)
      refine thn (hg C _ s5 _ H5 x u _ I5' r5 (gw x _ H5 _ _ (fun σ2 H2 wk q => And.intro wk q) (step x H5 y5))) fun _ s6 ⟨σ6, H6, I6, wk6, q6⟩ => ?_
      refine thn (hi C _ s6 σ6 H6 _ I6 q6) fun ok s7 ⟨H7, I7, q7⟩ => ?_
      have back : ∀ {σ8 : St} {H8 : Hp} {s8 : Shared}, σ8 = σ6 → Inv (cxC X scope C N s₂ H fp) ([(D, lob us k)] ++ pinsAt fp s5.heap) σ8 H8 s8 → Inv (cxC X scope C N s₂ H fp) [] (stC fr σ) H8 s8 ∧ tn (i + 1) s8.heap ∧ (∀ b ∈ fp, H8 b = none) ∧ s8.heap.get? D = some (lob us k) ∧ H8 D = none := fun {σ8 H8 s8} e8 I8 => by
        subst e8
        have pf : ∀ b o, b ∈ fp → s5.heap.get? b = some o → s8.heap.get? b = some o ∧ H8 b = none := fun b o hb e => by
          have := I8.pin (b, o) (List.mem_append_right _ (List.mem_append_right _ (mem_pinsAt hb e)))
          exact ⟨this.1, this.2.1⟩
        refine ⟨(I8.pins_of (pins' := []) fun p hp => absurd hp (by simp)).weak wk6.1.symm fun a v e => ?_, T.keep _ _ _ st5 fun b hb o e => (pf b o hb e).1, fun b hb => ?_, (I8.pin (D, lob us k) (by simp)).1, (I8.pin (D, lob us k) (by simp)).2.1⟩
        · obtain ⟨j, f1, _⟩ := stC_get e
          rw [wk6.2 a j f1]
          exact e
        · obtain ⟨o, e, _⟩ := T.obj _ _ st5 b hb
          exact (pf b o hb e).2
      cases ok with
      | false =>
        obtain ⟨m', hm, w7⟩ := hM _ _ (by simpa using q7)
        obtain ⟨a1, a2, a3, a4, a5⟩ := back rfl I7
        exact ⟨m', hm, i + 1, ys, us, k, H7, a1, a2, a3, a4, rv3, a5, w7⟩
      | true =>
        have q7' : te σ6 H7 fun y H4 => M (ys ++ [y]) H4 := by simpa using q7
        refine thn (he C _ s7 σ6 H7 _ I7 q7') fun v s8 ⟨y, H8, I8, ry, q8⟩ => ?_
        obtain ⟨m', hm, w8⟩ := hM _ _ q8
        obtain ⟨a1, a2, a3, a4, a5⟩ := back rfl I8
        have hus : us.toArray.size ≤ sizeLine := by
          rw [List.size_toArray, ← rv3.length]
          exact Nat.le_of_lt hlen
        refine wpAny_list_append_plain (hsz := hus) (l := D) (items := us.toArray) ⟨_, a4⟩ fun h₅ hl₅ hs₅ => ?_
        obtain ⟨k', hl₅'⟩ := hl₅
        obtain ⟨e1, e2, e3⟩ := dAs a5
        refine ⟨m', hm, i + 1, ys ++ [y], us ++ [v], k', H8, a1.turned (t' := s8.toks) (fun b o hb e => (hs₅.2 b hb).trans e) a5 e1 (.inr e2) e3 (fun p hp => absurd (show p ∈ ([] : List (Addr × Obj)) from hp) (by simp)), T.keep _ _ _ a2 fun b hb o e => (hs₅.2 b (hDn b hb)).trans e, a3, ?_, rv3.append (.cons ry .nil), a5, w8⟩
        show h₅.get? D = _
        rw [hl₅']
        simp [lob]
  exact codeAny_compStart_list loop (T.self _ _ _ _ _ st₁ loop)

theorem pe_comp {wi : TI} (c : CompOk X scope N fr) (hc : X.calm = true) (hi : PI X tg iter wi) (hg : ∀ C s₂ H fp, PG (cxC X scope C N s₂ H fp) tg g) (hf : ∀ C s₂ H fp, PIfs (cxC X scope C N s₂ H fp) ifs ti) (he : ∀ C s₂ H fp, PE (cxC X scope C N s₂ H fp) elt te) (gw : GW fr g)
    (hs : ∀ x, foldedSetIterable iter X.env x = pure x := by intro _; rfl) : PE X (.ListComp elt [⟨tg, iter, ifs, 0⟩] scope pos) (tComp fr wi g ti te) := by
  intro pins s σ H Q I h
  rw [eval_ListComp]
  refine wpAny_comprehension_free (use := none) rfl hs (closure_eq (c.cells I.ok)) c.kind c.names (thn (hi pins s σ H _ I h) fun v s1 h1 => thn h1 fun itv s2 h2 => ?_)
  obtain ⟨it, fp, tn, J, H2, e, I2, T, st2, f2, q⟩ := h2
  subst e
  refine comp_core (RR := fun acc C => compPost (model X.prog X.w) X.A X.xe none (EP X pins σ Q) acc C) c hc I2 T st2 f2 (fun C => hg C _ _ _) (fun C => hf C _ _ _) (fun C => he C _ _ _) gw q ?_
  intro D C H' ys s' IT as hm q
  obtain ⟨m, hm⟩ := hm
  exact ⟨m, hm, fun h' sb => ⟨.ref D, _, IT.turned (t' := s'.toks) (fun b o hb e => (sb.2 b hb).trans e) as.fr as.ne (.inr as.ab) as.cl as.pn, rfl, q⟩⟩
theorem ps_setC {wi : TI} {i : Nat} {x : Str} {pos' spos : Pos} (hN : X.N.Nodup) (hn : X.N[i]? = some x) (hx : Loc X.env.scope x) (c : CompOk X scope N fr) (hc : X.calm = true) (hi : PI X tg iter wi) (hg : ∀ C s₂ H fp, PG (cxC X scope C N s₂ H fp) tg g) (hf : ∀ C s₂ H fp, PIfs (cxC X scope C N s₂ H fp) ifs ti) (he : ∀ C s₂ H fp, PE (cxC X scope C N s₂ H fp) elt te) (gw : GW fr g)
    (hsw : swapsWith (.ListComp elt [⟨tg, iter, ifs, 0⟩] scope pos) (some (.Name x pos')) spos.line X.env = pure true := by rfl) (hs : ∀ x, foldedSetIterable iter X.env x = pure x := by intro _; rfl)
    (hfl : X.fn x = true ∨ X.env.scope.names.lookup x = some .local := by first | exact .inl rfl | exact .inr rfl | assumption) :
    PS X (.Assign [.Name x pos'] (.ListComp elt [⟨tg, iter, ifs, 0⟩] scope pos) spos) (tAsg (tComp fr wi g ti te) (gName i)) := by
  intro pins s σ H Q I h
  rw [exec_Assign_Name_used _ _ _ _ hsw]
  refine wpAny_bind (wpAny_standAt (wpAny_bind ?_))
  show wpAny _ X.A (do let _ ← comprehension (.ListComp elt [⟨tg, iter, ifs, 0⟩] scope pos) scope X.env _ (newList []) false (eval iter X.env) (some (assign (.Name x pos') X.env))) _ _ s
  refine wpAny_bind (wpAny_mono (wpAny_comprehension_free (use := some (assign (.Name x pos') X.env)) (Q := fun _ s' => SP X pins Q .next s') rfl hs (closure_eq (c.cells I.ok)) c.kind c.names
    (thn (hi pins s σ H _ I h) fun v s1 h1 => thn h1 fun itv s2 h2 => ?_)) (fun _ s' hq => wpAny_pure (wpAny_pure hq)) fun _ _ e => e)
  obtain ⟨it, fp, tn, J, H2, e, I2, T, st2, f2, q⟩ := h2
  subst e
  refine comp_core (RR := fun acc C => compPost (model X.prog X.w) X.A X.xe (some (assign (.Name x pos') X.env)) (fun _ s' => SP X pins Q .next s') acc C) c hc I2 T st2 f2 (fun C => hg C _ _ _) (fun C => hf C _ _ _) (fun C => he C _ _ _) gw q ?_
  intro D C H' ys s' IT as hm q
  obtain ⟨m, hm⟩ := hm
  show wpAny _ X.A (assign (.Name x pos') X.env (.ref D)) _ _ _
  refine wpAny_assign_Name (store_ok2 IT hN hn hx (v := .ref D) rfl (fun s2 I3 hsb => ?_) hfl)
  obtain ⟨a, sb, ha⟩ := hsb
  have hne : C ≠ a := by
    rcases ha with ha | ha
    · rw [ha]; exact as.ne
    · exact (as.cl _ _ ha).symm
  refine ⟨m, hm.sameBut sb hne, fun h' sb' => ⟨_, _, I3.turned (t' := s2.toks) (fun b o hb e => (sb'.2 b hb).trans e) as.fr as.ne (.inr as.ab) as.cl as.pn, q⟩⟩
end
end L2

set_option Elab.async false
set_option linter.all false
set_option maxRecDepth 100000
namespace L2
open PySem PySem.Spec PyProof.Rows

/-- several untracked records of ours have turned -/
theorem Inv.turnedL {X : Cx} {pins : List (Addr × Obj)} {σ : St} {H : Hp} {s : Shared} {h' : Heap} {t' : Nat} {fp : List Addr} (I : Inv X pins σ H s) (hf : ∀ b ∈ fp, FpOk X pins H b) (k : ∀ b o, b ∉ fp → s.heap.get? b = some o → h'.get? b = some o) :
    Inv X pins σ H { s with heap := h', toks := t' } := by
  have nit : ∀ b u, H b = some u → b ∉ fp := fun b u e z => by rw [(hf b z).1] at e; cases e
  refine I.step (g' := s.gens) (d' := s.drawn) (ch := fp) (fun b hb => ?_) (fun b o _ _ hc e _ => k b o hc e) (fun b o _ _ hc e _ => ⟨o.slots, k b o hc e⟩) (fun _ _ _ _ n => n)
    (fun b o hc e => ⟨o, k b o hc e⟩) (fun _ _ e => e) (fun _ _ _ e => e) (fun b ps e => ⟨#[], by rw [e]; simp⟩) (fun m hm => ?_) (fun b u e => ?_) I.bare
  · obtain ⟨q1, q2, q3, q4, q5, q6⟩ := hf b hb
    exact ⟨q4, q2, q5, q6⟩
  · obtain ⟨o, es, ep, ho, r⟩ := hm
    exact ⟨o, es, ep, k _ o (fun z => (hf _ z).2.1 rfl) ho, r⟩
  · refine (I.hok b u e).stay (fun c v hc q => k c v ?_ q) (fun _ q => q) fun _ _ q => q
    rcases hc with z | z
    · rw [z]; exact nit b u e
    · exact nit c _ z
/-- .. and a tuple is new -/
theorem Inv.turnT {X : Cx} {pins : List (Addr × Obj)} {σ : St} {H : Hp} {s : Shared} {h' : Heap} {t' : Nat} {fp : List Addr} {T : Addr} {xs : List V} {its : List Value} (I : Inv X pins σ H s) (hf : ∀ b ∈ fp, FpOk X pins H b) (k : ∀ b o, b ∉ fp → s.heap.get? b = some o → h'.get? b = some o)
    (hT : s.heap.objs.size ≤ T) (hz : xs.length ≤ sizeLine) (r : Vals xs its) (it : IsTup h' T its.toArray) : Inv X pins σ (upd H T (.tup xs)) { s with heap := h', toks := t' } := by
  have hn : H T = none := I.hok.fresh hT
  have a := I.aside hT hn
  exact (I.turnedL (t' := t') hf k).track hn a.ne a.ab a.cl a.pn ⟨hz, its, r, it⟩

/-! ### zip of two lists -/
def Itz (K : PySem.W.Frag) (a b : Addr) : It :=
  ⟨fun i H => ∃ xs ys x y, SqL K H a xs ∧ SqL K H b ys ∧ xs[i]? = some x ∧ ys[i]? = some y,
   fun i H v H' => ∃ T x y, v = .ref T ∧ H T = none ∧ H' = upd H T (.tup [x, y]) ∧ (∀ xs, SqL K H a xs → xs[i]? = some x) ∧ ∀ ys, SqL K H b ys → ys[i]? = some y,
   fun i H => ∃ xs ys, SqL K H a xs ∧ SqL K H b ys ∧ (xs.length ≤ i ∨ ys.length ≤ i)⟩
def ZipSt (z TI TO i1 i2 a b : Addr) (i : Nat) (h : Heap) : Prop := IsZip h z TI TO .none ∧ IsPair h TI (.ref i1) (.ref i2) ∧ (∃ u v, IsPair h TO u v) ∧ h.IsListIter i1 a i ∧ h.IsListIter i2 b i
theorem turn_zip {P : Program} {w : World} {K : PySem.W.Frag} {elts : List Expr} {kk : Nat} {tp : Pos} {z TI TO i1 i2 a b : Addr} (D : ZipApart z TI TO i1 i2 a b) :
    Turn P w K (.Tuple elts kk tp) (Itz K a b) [z, TI, TO, i1, i2] z (ZipSt z TI TO i1 i2 a b) where
  mem := by simp
  obj := fun i h st c hc => by
    obtain ⟨h1, h2, ⟨u, v, h3⟩, ⟨o1, e1, _, d1⟩, ⟨o2, e2, _, d2⟩⟩ := st
    simp only [List.mem_cons, List.not_mem_nil, or_false] at hc
    rcases hc with rfl | rfl | rfl | rfl | rfl
    · exact ⟨_, h1, fun v z => by cases (show Data.fields _ = Data.cell v from z)⟩
    · exact ⟨_, h2, fun v z => by cases (show Data.seq _ _ = Data.cell v from z)⟩
    · exact ⟨_, h3, fun v z => by cases (show Data.seq _ _ = Data.cell v from z)⟩
    · exact ⟨_, e1, fun v z => by rw [d1] at z; cases z⟩
    · exact ⟨_, e2, fun v z => by rw [d2] at z; cases z⟩
  keep := fun i h h' st k => by
    obtain ⟨h1, h2, ⟨u, v, h3⟩, h4, h5⟩ := st
    exact ⟨k _ (by simp) _ h1, k _ (by simp) _ h2, ⟨u, v, k _ (by simp) _ h3⟩, h4.at fun o e => k _ (by simp) o e, h5.at fun o e => k _ (by simp) o e⟩
  item := by
    intro X hP hw hK hc i pins s σ H E I hf st hg
    subst hP hw hK
    obtain ⟨xs, ys, x, y, hx, hy, ex, ey⟩ := hg
    obtain ⟨h1, h2, ⟨u, v, h3⟩, h4, h5⟩ := st
    obtain ⟨its, rv, p, hz⟩ := I.list hx
    obtain ⟨jts, rw', q, hz'⟩ := I.list hy
    obtain ⟨ux, hux, rux⟩ := rv.get ex
    obtain ⟨uy, huy, ruy⟩ := rw'.get ey
    refine wpAny_pyNext_zip_item D h1 h2 h3 h4 h5 p.isList q.isList (x := ux) (y := uy) (by simpa using hux) (by simpa using huy) fun h' a1 a2 a3 a4 a5 a6 a7 => ?_
    have lt : ∀ c ∈ [z, TI, TO, i1, i2], c < s.heap.objs.size := fun c hc => by
      obtain ⟨o1, e1, _⟩ := h4
      obtain ⟨o2, e2, _⟩ := h5
      simp only [List.mem_cons, List.not_mem_nil, or_false] at hc
      rcases hc with rfl | rfl | rfl | rfl | rfl
      · exact Heap.lt_size h1
      · exact Heap.lt_size h2
      · exact Heap.lt_size h3
      · exact Heap.lt_size e1
      · exact Heap.lt_size e2
    have zT : z ≠ s.heap.objs.size := Nat.ne_of_lt (lt z (by simp))
    refine ⟨_, rfl, wpAny_letOwnedTupleGo_zip a1 fun h2' b1 b2 => ?_⟩
    have hk : ∀ c o, c ∉ [z, TI, TO, i1, i2] → s.heap.get? c = some o → h2'.get? c = some o := fun c o hc e => by
      simp only [List.mem_cons, List.not_mem_nil, or_false, not_or] at hc
      exact (b2.2 c hc.1).trans (a7 c o hc.1 hc.2.2.1 hc.2.2.2.1 hc.2.2.2.2 e)
    have I1 := I.turnT (h' := h2') (t' := s.toks) (T := s.heap.objs.size) (xs := [x, y]) (its := [ux, uy]) hf hk (Nat.le_refl _) (szl (Nat.le_of_ble_eq_true rfl)) (.cons rux (.cons ruy .nil)) ⟨_, (b2.2 _ zT.symm).trans a5, rfl, _, rfl⟩
    refine ⟨.ref s.heap.objs.size, _, I1, rfl, ⟨_, x, y, rfl, I.hok.fresh (Nat.le_refl _), rfl, fun xs' h => by rw [I.list_inj h hx]; exact ex, fun ys' h => by rw [I.list_inj h hy]; exact ey⟩, ?_, fun c hc => ?_⟩
    · exact ⟨b1, (b2.2 _ D.TIz).trans (a7 _ _ D.TIz D.TITO D.TIi1 D.TIi2 h2), ⟨_, _, (b2.2 _ D.TOz).trans a2⟩, a3.at fun o e => (b2.2 _ D.i1z).trans e, a4.at fun o e => (b2.2 _ D.i2z).trans e⟩
    · rw [upd_ne (Nat.ne_of_lt (lt c hc))]
      exact (hf c hc).1
  done := by
    intro X hP hw hK hc i pins s σ H E I hf st hg
    subst hP hw hK
    obtain ⟨xs, ys, hx, hy, hl⟩ := hg
    obtain ⟨h1, h2, ⟨u, v, h3⟩, h4, h5⟩ := st
    obtain ⟨its, rv, p, hz⟩ := I.list hx
    obtain ⟨jts, rw', q, hz'⟩ := I.list hy
    have l1 := rv.length
    have l2 := rw'.length
    refine wpAny_pyNext_zip_end (I.ok.hd hc) D h1 h2 h3 h4 h5 p.isList q.isList ?_ fun h' hk => ⟨rfl, ?_⟩
    · rcases hl with hl | hl
      · left; simp; omega
      · right; simp; omega
    · exact I.turnedL (t' := s.toks) hf fun c o hc e => by
        simp only [List.mem_cons, List.not_mem_nil, or_false, not_or] at hc
        exact hk c o hc.1 hc.2.2.1 hc.2.2.2.1 hc.2.2.2.2 e
  self := fun A i s Q E st h => wpAny_pyIter_zip st.1 h
def iZip2 (K : PySem.W.Frag) (ta : TA) : TI := fun σ H R => ta σ H fun vs H1 => ∃ a b, vs = [.ref a, .ref b] ∧ (∃ xs, SqL K H1 a xs) ∧ (∃ ys, SqL K H1 b ys) ∧ R (Itz K a b) H1
theorem bt_zip : bootBuiltins "zip" = some (.type "zip") := by first | exact PySem.boot_zip | exact PyProof.Rows.boot_zip
section
variable {X : Cx} {elts : List Expr} {kk : Nat} {tp : Pos}
theorem pi_zip2 {a b : Expr} {ta : TA} {p pos : Pos} (hg : Gl X "zip") (hm : X.mg "zip" = none) (ha : PA X [a, b] ta) (hs : starEach [a, b] X.env = [(false, eval a X.env), (false, eval b X.env)] := by rfl) (hs2 : starEach [b] X.env = [(false, eval b X.env)] := by rfl) :
    PI X (.Tuple elts kk tp) (.Call (.Name "zip" p) [a, b] [] pos) (iZip2 X.K ta) := by
  intro pins s σ H R I h
  refine Call_ (ld_blt I hg hm bt_zip (PyProof.Rows.callWith_type1 (thn (ha pos pins s σ H _ I h) fun us s1 ⟨vs, H1, I1, r1, q1⟩ => ?_) (by rw [hs, hs2]) (by rw [hs2]; rfl)))
  obtain ⟨x, y, e, ⟨xs, hx⟩, ⟨ys, hy⟩, q⟩ := q1
  subst e
  cases r1 with
  | cons r rr =>
    cases rr with
    | cons r' rr =>
      cases rr
      obtain ⟨its, rv, pl, hz⟩ := I1.list hx
      obtain ⟨jts, rw', ql, hz'⟩ := I1.list hy
      cases r
      cases r'
      have a1 : x < s1.heap.objs.size := by obtain ⟨_, e, _⟩ := pl.isList; exact Heap.lt_size e
      have a2 : y < s1.heap.objs.size := by obtain ⟨_, e, _⟩ := ql.isList; exact Heap.lt_size e
      refine call_zip_2 pl.isList ql.isList fun h' b1 b2 b3 b4 b5 b6 b7 => ?_
      have I2 : Inv X pins σ H1 { s1 with heap := h' } := I1.kept (t' := s1.toks) b7
      refine wpAny_pyIter_zip (s := { s1 with heap := h' }) b1 ⟨_, _, _, _, H1, rfl, I2, turn_zip (zipApart_new a1 a2), ⟨b1, b2, ⟨_, _, b3⟩, b4, b5⟩, fun c hc => ?_, q⟩
      have hc' : s1.heap.objs.size ≤ c := by
        simp only [List.mem_cons, List.not_mem_nil, or_false] at hc
        rcases hc with rfl | rfl | rfl | rfl | rfl
        · exact Nat.le_add_right _ _
        · exact Nat.le_add_right _ _
        · exact Nat.le_add_right _ _
        · exact Nat.le_refl _
        · exact Nat.le_add_right _ _
      exact I1.fpOk hc' (I1.hok.fresh hc')
end

/-! ### enumerate of a list -/
def Ite (K : PySem.W.Frag) (a : Addr) : It :=
  ⟨fun i H => ∃ xs x, SqL K H a xs ∧ xs[i]? = some x,
   fun i H v H' => ∃ T x, v = .ref T ∧ H T = none ∧ H' = upd H T (.tup [.int i, x]) ∧ (∀ xs, SqL K H a xs → xs[i]? = some x),
   fun i H => ∃ xs, SqL K H a xs ∧ xs.length ≤ i⟩
def iEnum (K : PySem.W.Frag) (ta : TA) : TI := fun σ H R => ta σ H fun vs H1 => ∃ a, vs = [.ref a] ∧ (∃ xs, H1 a = some (.lst xs)) ∧ R (Ite K a) H1
section
variable {X : Cx} {elts : List Expr} {kk : Nat} {tp : Pos}
end
end L2

set_option Elab.async false
set_option linter.all false
set_option maxRecDepth 100000
namespace L2
open PySem PySem.Spec PyProof.Rows
section
variable {prog : Program} {w : World} {A : Around} {E : Value → Shared → Prop} {s : Shared}
theorem min_raw {l : Addr} {vs : List Value} {ns : List Int} {Q : Value → Shared → Prop} (hh : A.handled = none) (hl : s.heap.IsList l vs.toArray) (hi : IntsAre vs ns) (hne : 0 < ns.length)
    (h : ∀ h' M (t : Tok) tk, (∀ b o, s.heap.get? b = some o → h'.get? b = some o) → M ∈ ns → (∀ a, a ∈ ns → M ≤ a) → Q (.int M t) { s with heap := h', toks := tk }) : wpAny (model prog w) A (call (.builtin "min") [.ref l]) Q E s := by
  obtain ⟨xs, e⟩ := hi.allInts.items
  have hns : ns = xs.toList.map (·.1) := by
    rw [← hi.numsOf, ← nums_intItems, ← e]
  have hsz : 0 < xs.size := by
    have h3 := hne; rw [hns, List.length_map, Array.length_toList] at h3; exact h3
  rw [e] at hl
  refine min_intList hh hl hsz fun v h' tk hv hk => ?_
  obtain ⟨t, rfl⟩ := intItems_at hv
  obtain ⟨h1, h2⟩ := argBest_lt (numAt xs) (xs.size - 1)
  refine h _ _ t tk hk ?_ fun a ha => ?_
  · rw [hns, numAt_eq]; exact PySem.getD_mem (by rw [List.length_map, Array.length_toList]; omega)
  · rw [hns] at ha
    obtain ⟨j, hj, rfl⟩ := mem_getD ha
    rw [List.length_map, Array.length_toList] at hj
    rw [← numAt_eq]; exact h2 j (by omega)
end
def rSum (K : PySem.W.Frag) : List V → Hp → VK → Prop := fun xs H Q => ∃ p ns, xs = [.ref p] ∧ SqL K H p (iL ns) ∧ Q (.int ns.sum) H
def rMin (K : PySem.W.Frag) : List V → Hp → VK → Prop := fun xs H Q => (∃ i j, xs = [.int i, .int j] ∧ Q (.int (if j < i then j else i)) H) ∨ ∃ p ns, xs = [.ref p] ∧ SqL K H p (iL ns) ∧ 0 < ns.length ∧ ∀ m, m ∈ ns → (∀ a ∈ ns, m ≤ a) → Q (.int m) H
def rMax (K : PySem.W.Frag) : List V → Hp → VK → Prop := fun xs H Q => (∃ i j, xs = [.int i, .int j] ∧ Q (.int (if j > i then j else i)) H) ∨ ∃ p ns, xs = [.ref p] ∧ SqL K H p (iL ns) ∧ 0 < ns.length ∧ ∀ m, m ∈ ns → (∀ a ∈ ns, a ≤ m) → Q (.int m) H
def rSorted (K : PySem.W.Frag) : List V → Hp → VK → Prop := fun xs H Q => ∃ p ns, xs = [.ref p] ∧ SqL K H p (iL ns) ∧ ns.length < 64 ∧ ∀ l ms, H l = none → ms.Perm ns → ms.Pairwise (· ≤ ·) → Q (.ref l) (upd H l (.lst (iL ms)))
section
variable {X : Cx}
theorem call_minN (hc : X.calm = true) : CallR X (.builtin "min") (rMin X.K) := by
  intro pins s σ H xs us Q I r h
  rcases h with h | ⟨p, ns, rfl, hq, hne, q⟩
  · exact call_min2 hc pins s σ H xs us Q I r h
  · obtain ⟨u, rfl, ru⟩ := vals1 r
    cases ru
    obtain ⟨its, rv, pl, hz⟩ := I.list hq
    exact min_raw (I.ok.hd hc) pl.isList (intsAre_of rv) hne fun h' M t tk hk h1 h2 => ⟨.int M, H, I.kept (t' := tk) hk, ⟨_, rfl⟩, q M h1 h2⟩
end
section
variable {K : PySem.W.Frag} {H : Hp} {Q : VK} {p : Addr} {ns : List Int} {i j : Int}
theorem i_minL (h : SqL K H p (iL ns)) (hn : 0 < ns.length) (q : ∀ m, m ∈ ns → (∀ a ∈ ns, m ≤ a) → Q (.int m) H) : rMin K [.ref p] H Q := .inr ⟨p, ns, rfl, h, hn, q⟩
end

/-! ### loops over zip, enumerate; comprehensions by an invariant -/
section
variable {K : PySem.W.Frag} {g : TG} {tb : TS} {D : Ends} {σ : St} {H : Hp}
/-- both lists of ints, as long as the shorter one -/
theorem lp_zip {a b : Addr} {xs ys : List V} (Pv : Nat → St → Hp → Prop) (h0 : Pv 0 σ H) (hl : ∀ i σ H, Pv i σ H → SqL K H a xs ∧ SqL K H b ys)
    (hs : ∀ i x y T σ H, xs[i]? = some x → ys[i]? = some y → Pv i σ H → H T = none → g (.ref T) σ (upd H T (.tup [x, y])) fun σ2 H2 => tb { D with nx := Pv (i + 1), ct := Pv (i + 1), bk := D.nx } σ2 H2)
    (hd : ∀ σ H, Pv (min xs.length ys.length) σ H → D.nx σ H) : LoopI (Itz K a b) g tb D σ H := by
  refine ⟨fun i m σ H => m = min xs.length ys.length - i ∧ i ≤ min xs.length ys.length ∧ Pv i σ H, ⟨_, rfl, Nat.zero_le _, h0⟩, ?_⟩
  rintro i m σ H ⟨rfl, hi, p⟩
  obtain ⟨q1, q2⟩ := hl i σ H p
  by_cases hlt : i < min xs.length ys.length
  · have l1 : i < xs.length := by omega
    have l2 : i < ys.length := by omega
    refine .inr ⟨⟨xs, ys, xs[i], ys[i], q1, q2, by simp [l1], by simp [l2]⟩, Pv (i + 1), fun σ' H' p' => ⟨_, by omega, rfl, hlt, p'⟩, fun x H' y => ?_⟩
    obtain ⟨T, x1, y1, rfl, hT, rfl, ex, ey⟩ := y
    exact hs i x1 y1 T σ H (ex xs q1) (ey ys q2) p hT
  · have e : i = min xs.length ys.length := by omega
    refine .inl ⟨⟨xs, ys, q1, q2, by omega⟩, hd σ H (by rw [← e]; exact p)⟩
end
section
variable {K : PySem.W.Frag} {g : TG} {ti : TT} {te : TE} {σc : St} {H : Hp} {Q : VK}
theorem cp_list {a : Addr} {xs : List V} (Pv : Nat → List V → Hp → Prop) (h0 : Pv 0 [] H) (hl : ∀ i ys H, Pv i ys H → SqL K H a xs ∧ ys.length ≤ i) (hx : xs.length < sizeLine)
    (hs : ∀ i x ys H, xs[i]? = some x → Pv i ys H → g x σc H fun σ2 H2 => ti σ2 H2 fun b H3 => if b = true then te σ2 H3 fun y H4 => Pv (i + 1) (ys ++ [y]) H4 else Pv (i + 1) ys H3)
    (hd : ∀ l ys H, Pv xs.length ys H → H l = none → Q (.ref l) (upd H l (.lst ys))) : CompI (Itl K a) g ti te σc H Q := by
  refine ⟨fun i m ys H => m = xs.length - i ∧ i ≤ xs.length ∧ Pv i ys H, ⟨_, rfl, Nat.zero_le _, h0⟩, ?_⟩
  rintro i m ys H ⟨rfl, hi, p⟩
  obtain ⟨q, hy⟩ := hl i ys H p
  refine ⟨by omega, ?_⟩
  by_cases hlt : i < xs.length
  · refine .inr ⟨⟨xs, xs[i], q, by simp [hlt]⟩, Pv (i + 1), fun σ' H' p' => ⟨_, by omega, rfl, hlt, p'⟩, fun x H' y => ?_⟩
    obtain ⟨e, y⟩ := y
    subst e
    exact hs i x ys _ (y xs q) p
  · have e : i = xs.length := by omega
    subst e
    exact .inl ⟨⟨xs, q, Nat.le_refl _⟩, fun l hl => hd l ys H p hl⟩
theorem cp_range {lo : Int} {n : Nat} (Pv : Nat → List V → Hp → Prop) (h0 : Pv 0 [] H) (hl : ∀ i ys H, Pv i ys H → ys.length ≤ i) (hx : n < sizeLine)
    (hs : ∀ i ys H, i < n → Pv i ys H → g (.int (lo + i)) σc H fun σ2 H2 => ti σ2 H2 fun b H3 => if b = true then te σ2 H3 fun y H4 => Pv (i + 1) (ys ++ [y]) H4 else Pv (i + 1) ys H3)
    (hd : ∀ l ys H, Pv n ys H → H l = none → Q (.ref l) (upd H l (.lst ys))) : CompI (Itr lo n) g ti te σc H Q := by
  refine ⟨fun i m ys H => m = n - i ∧ i ≤ n ∧ Pv i ys H, ⟨_, rfl, Nat.zero_le _, h0⟩, ?_⟩
  rintro i m ys H ⟨rfl, hi, p⟩
  have hy := hl i ys H p
  refine ⟨by omega, ?_⟩
  by_cases hlt : i < n
  · refine .inr ⟨hlt, Pv (i + 1), fun σ' H' p' => ⟨_, by omega, rfl, hlt, p'⟩, fun x H' y => ?_⟩
    obtain ⟨e, y⟩ := y
    subst e y
    exact hs i ys _ hlt p
  · have e : i = n := by omega
    subst e
    exact .inl ⟨Nat.le_refl _, fun l hl => hd l ys H p hl⟩
end
end L2
namespace L2
open PySem PySem.Spec PyProof.Rows
theorem fr_nil {X : Cx} {sc : Scope} : FrOk X sc [] [] := trivial
theorem fr_none {X : Cx} {sc : Scope} {x : Str} {N : List Str} {fr : List (Option Nat)} (h : FrOk X sc N fr) : FrOk X sc (x :: N) (none :: fr) := h
theorem fr_some {X : Cx} {sc : Scope} {x : Str} {N : List Str} {fr : List (Option Nat)} {j : Nat} (h1 : X.N[j]? = some x) (h2 : X.env.kindOf x = some .cell ∨ X.env.kindOf x = some .free) (h3 : sc.names.lookup x = some .free) (h : FrOk X sc N fr) : FrOk X sc (x :: N) (some j :: fr) := ⟨⟨h1, h2, h3⟩, h⟩
theorem pe_globI {X : Cx} {x : Str} {n : Int} {pos : Pos} (h : ∃ t, X.mg x = some (.int n t)) (hg : Gl X x) (hd : (x == ("__debug__" : Str)) = false := by decide) : PE X (.Name x pos) (tC (.int n)) := by
  obtain ⟨t, h⟩ := h
  exact pe_glob hg h ⟨t, rfl⟩ hd
end L2
namespace L2
open PySem PySem.Spec PyProof.Rows
/-! ### the same rules with K said apart (a block's context hides it) -/
section
variable {X : Cx} (K : PySem.W.Frag) {tg l : Expr} {tl : TE} {pos p : Pos}
theorem op_eqK (hu : X.A.units + 64 < cLine) (hK : X.K = K := by rfl) : OpR X (compareOp .Eq) (rEqP K) := by subst hK; exact op_eqP hu
theorem op_neK (hu : X.A.units + 64 < cLine) (hK : X.K = K := by rfl) : OpR X (compareOp .NotEq) (rNeP K) := by subst hK; exact op_neP hu
theorem ix_K (hK : X.K = K := by rfl) : IxR X (rIxP K) := by subst hK; exact ix_P
theorem sl_listK (hK : X.K = K := by rfl) : SlR X (rSlL K) := by subst hK; exact sl_list
theorem call_lenK (hK : X.K = K := by rfl) : CallR X (.builtin "len") (rLen K) := by subst hK; exact call_lenN
theorem call_isinstanceK (hK : X.K = K := by rfl) : CallR X (.builtin "isinstance") (rIsi K) := by subst hK; exact call_isinstanceN
theorem call_listK (hK : X.K = K := by rfl) : CallR X (.type "list") (rListOf K) := by subst hK; exact call_listN
theorem call_minK (hc : X.calm = true := by rfl) (hK : X.K = K := by rfl) : CallR X (.builtin "min") (rMin K) := by subst hK; exact call_minN hc
theorem call_intK : CallR X (.type "int") rIntOf := call_intN
theorem call_absK : CallR X (.builtin "abs") rAbs := call_absN
theorem pi_listK (hl : PE X l tl) (hK : X.K = K := by rfl) : PI X tg l (iList K tl) := by subst hK; exact pi_list hl
theorem pi_zip2K {elts : List Expr} {kk : Nat} {tp : Pos} {a b : Expr} {ta : TA} (hg : Gl X "zip") (hm : X.mg "zip" = none) (ha : PA X [a, b] ta) (hs : starEach [a, b] X.env = [(false, eval a X.env), (false, eval b X.env)] := by rfl) (hs2 : starEach [b] X.env = [(false, eval b X.env)] := by rfl) (hK : X.K = K := by rfl) :
    PI X (.Tuple elts kk tp) (.Call (.Name "zip" p) [a, b] [] pos) (iZip2 K ta) := by subst hK; exact pi_zip2 hg hm ha hs hs2
theorem pg_tupK {es : List Expr} {k : Nat} {t : TGs} (n : Nat) (h : PGs X es t) (hc : X.calm = true := by rfl) (hn : (assignEach es X.env).length = n := by rfl) (hst : (assignEach es X.env).findIdx? (·.1) = none := by rfl) (hK : X.K = K := by rfl) : PG X (.Tuple es k pos) (gTup K n t) := by
  subst hK; exact pg_tup hc h hn hst
theorem pt_truthK {a : Expr} {ta : TE} (ha : PE X a ta) (he : ∀ whole, isTrue a X.env whole = (do let v ← whole; standAt a.pos; holding [v] (truthy v)) := by intro _; rfl) (hK : X.K = K := by rfl) : PT X a (tTru K ta) := by
  subst hK; exact pt_truthN ha he
theorem pe_bmK {o e : Expr} {es : List Expr} {to : TE} {t : TA} {name : Str} {apos cpos : Pos} {T id : String} {r : V → List V → Hp → VK → Prop} (pa : PlainAttrs T) (slot : Slot T name id) (hty : typeOf (.builtin id) = pure (.type "method_descriptor")) (hm : MtR X id r) (ho : PE X o to) (ha : PA X (e :: es) t)
    (hbase : attributeBase o name X.env (eval o X.env) = eval o X.env := by rfl)
    (hfew : ((backTo cpos (starEach (e :: es) X.env)).all (fun x => !x.1) && (backToKw cpos (keywordEach [] X.env)).all (fun x => x.1.isSome)
      && decide ((e :: es).length + ([] : List Keyword).length + (if ([] : List Keyword).isEmpty then 0 else 1) < 30)) = true := by rfl)
    (hline : (apos.endLine == cpos.line) = true := by rfl) (hs : starEach (e :: es) X.env = (false, eval e X.env) :: starEach es X.env := by rfl) (hplain : (backTo cpos (starEach es X.env)).any (·.1) = false := by rfl) (hK : X.K = K := by rfl) :
    PE X (.Call (.Attribute o name apos) (e :: es) [] cpos) (tBM K T r to t) := by
  subst hK; exact pe_bm pa slot hty hm ho ha hbase hfew hline hs hplain
theorem op_inK (hK : X.K = K := by rfl) : OpR X (compareOp .In) (rIn K false) := by subst hK; exact op_in_seq
theorem op_notInK (hK : X.K = K := by rfl) : OpR X (compareOp .NotIn) (rIn K true) := by subst hK; exact op_notIn_seq
end
end L2
namespace L2
open PySem PySem.Spec PyProof.Rows
section
variable {K : PySem.W.Frag} {H : Hp} {Q : VK} {n : Nat}
theorem pd_tup {t : Addr} {ds : List PyData} {xs : List V} (h : SqT K H t xs) (p : Paired (PdAt K H n) ds xs) : PdAt K H (n + 1) (.tuple ds) (.ref t) := ⟨t, xs, rfl, h, p⟩
theorem pd_lst {t : Addr} {ds : List PyData} {xs : List V} (h : SqL K H t xs) (p : Paired (PdAt K H n) ds xs) : PdAt K H (n + 1) (.list ds) (.ref t) := ⟨t, xs, rfl, h, p⟩
theorem i_neSame {x y : V} (d : PyData) (hx : PdAt K H 9 d x) (hy : PdAt K H 9 d y) (q : Q (.bl false) H) : rNeP K x y H Q := ⟨d, d, hx, hy, by
  rw [PySem.SeqAt.eqv_refl d (pd_shape 9 d x hx).1]; exact q⟩
end
end L2
namespace L2
open PySem PySem.Spec PyProof.Rows
end L2


set_option Elab.async false
set_option linter.all false
set_option maxRecDepth 100000
namespace L2
open PySem PySem.Spec PyProof.Rows
/-- lo, lo - 1, .. (n of them) -/
def Itd (lo : Int) (n : Nat) : It := ⟨fun i _ => i < n, fun i H x H' => H' = H ∧ x = .int (lo - i), fun i _ => n ≤ i⟩
section
variable {X : Cx} {tg : Expr}
def iRng3 (ta : TA) : TI := fun σ H R => ta σ H fun vs H1 => ∃ i j : Int, vs = [.int i, .int j, .int (-1)] ∧ (-(2 ^ 62) ≤ i ∧ i < 2 ^ 62 ∧ -(2 ^ 62) ≤ j ∧ j < 2 ^ 62) ∧ R (Itd i (i - j).toNat) H1
end
section
variable {K : PySem.W.Frag} {g : TG} {tb : TS} {D : Ends} {σ : St} {H : Hp}
end
section
variable {X : Cx} (K : PySem.W.Frag)
/-- all of a list of truths -/
def rAll (K : PySem.W.Frag) : List V → Hp → VK → Prop := fun xs H Q => ∃ (p : Addr) (bs : List Bool), xs = [.ref p] ∧ SqL K H p (bs.map V.bl) ∧ Q (.bl (bs.all id)) H
theorem vals_bl : ∀ {bs : List Bool} {us : List Value}, Vals (bs.map V.bl) us → us = bs.map Value.bool
  | [], _, h => by cases h; rfl
  | b :: bs, _, h => by
    cases h with
    | cons r t =>
      cases r
      rw [vals_bl t]; rfl
theorem bt_all : bootBuiltins "all" = some (.builtin "all") := by first | exact PySem.boot_all | exact PyProof.Rows.boot_all
theorem range_allB (bs : List Bool) : ((List.range bs.length).all fun i => (bs[i]?).getD true) = bs.all id := by
  rw [Bool.eq_iff_iff, List.all_eq_true, List.all_eq_true]
  constructor
  · intro h b hb
    obtain ⟨i, hi, rfl⟩ := List.getElem_of_mem hb
    have := h i (List.mem_range.mpr hi)
    simpa [List.getElem?_eq_getElem hi] using this
  · intro h i hi
    have hi' := List.mem_range.mp hi
    simpa [List.getElem?_eq_getElem hi'] using h _ (List.getElem_mem hi')
theorem call_allK (hc : X.calm = true := by rfl) (hK : X.K = K := by rfl) : CallR X (.builtin "all") (rAll K) := by
  subst hK
  intro pins s σ H xs us Q I r h
  obtain ⟨p, bs, rfl, hq, q⟩ := h
  obtain ⟨u, rfl, ru⟩ := vals1 r
  cases ru
  obtain ⟨its, rv, pl, hz⟩ := I.list hq
  have hl := pl.isList
  have hlt : p < s.heap.objs.size := by obtain ⟨_, e, _⟩ := hl; exact Heap.lt_size e
  have hv := vals_bl rv
  refine call_all_walk (wpAny_pyIter_list hl ?_)
  refine ⟨s.heap.objs.size, [s.heap.objs.size, p], [s.heap.objs.size], its.toArray.size, _, _, fun i => (bs[i]?).getD true, rfl, Walks.list (A := X.A.in1) (I.ok.hd hc) _ p (Nat.ne_of_lt hlt) its.toArray,
    ⟨⟨_, Heap.get?_push_size _ rfl, rfl, rfl⟩, hl.push _⟩, fun i v s' Q' E' hP hQ => ?_, fun h' tk hk => ?_⟩
  · have hP' : its[i]? = some v := by simpa using hP
    rw [hv, List.getElem?_map] at hP'
    obtain ⟨b, e, rfl⟩ := Option.map_eq_some_iff.mp hP'
    simp only [e, Option.getD_some] at hQ
    exact wpAny_truthy_bool hQ
  · have e : ((List.range its.toArray.size).all fun i => (bs[i]?).getD true) = bs.all id := by
      rw [List.size_toArray, hv, List.length_map]; exact range_allB bs
    rw [e]
    exact fin_bl (I.kept (t' := tk) fun b x e => hk b x (fun hm => by rw [List.mem_singleton.mp hm] at e; exact Nat.lt_irrefl _ (Heap.lt_size e)) (Heap.get?_push_of_some _ e)) q rfl
theorem i_all {p : Addr} {bs : List Bool} {H : Hp} {Q : VK} (h : SqL K H p (bs.map V.bl)) (q : Q (.bl (bs.all id)) H) : rAll K [.ref p] H Q := ⟨p, bs, rfl, h, q⟩
/-- is, is not of truths -/
def rIsB (neg : Bool) : R2 := fun x y H Q => ∃ a b : Bool, x = .bl a ∧ y = .bl b ∧ Q (.bl (if neg then !decide (a = b) else decide (a = b))) H
theorem i_isB {a b : Bool} {H : Hp} {Q : VK} (q : Q (.bl (decide (a = b))) H) : rIsB false (.bl a) (.bl b) H Q := ⟨a, b, rfl, rfl, q⟩
theorem i_isNotB {a b : Bool} {H : Hp} {Q : VK} (q : Q (.bl (!decide (a = b))) H) : rIsB true (.bl a) (.bl b) H Q := ⟨a, b, rfl, rfl, q⟩
end
end L2

set_option Elab.async false
set_option linter.all false
set_option maxRecDepth 100000
/-! An exception on its way through the frames, with its own dict known to be none. -/
namespace L2
open PySem PySem.Spec PyProof.Rows
theorem dict_mapFields (o : Obj) (g : Array Value → Array Value) : (o.mapFields g).dict = o.dict := by
  rcases o with ⟨c, d, dt, sl⟩
  cases dt <;> rfl
/-- the exception at e and the head of its trace -/
def TrD (h B : Heap) (e : Addr) (cls fl : Value) : Prop :=
  ∃ oe vs T oT ts, h.get? e = some oe ∧ (oe.cls = cls ∧ oe.dict = none) ∧ oe.data = .fields vs ∧ vs[1]? = some (.ref T) ∧ B.get? T = none ∧ T ≠ e ∧ h.get? T = some oT ∧ oT.data = .fields ts ∧ ts[3]? = some fl
structure FlyAt (B : Heap) (l : List Env) (e : Addr) (cls fl : Value) (h : Heap) : Prop where
  st : B.StaysIn h
  ne : B.get? e = none
  fr : h.FunFrames B l
  tr : TrD h B e cls fl
abbrev Fly (B : Heap) (l : List Env) (e : Addr) (cls : Value) (h : Heap) : Prop := FlyAt B l e cls .none h
theorem FlyAt.there {B : Heap} {l : List Env} {e : Addr} {cls fl : Value} {h : Heap} (x : FlyAt B l e cls fl h) : ∃ o vs, h.get? e = some o ∧ o.cls = cls ∧ o.dict = none ∧ o.data = .fields vs := by
  obtain ⟨oe, vs, T, oT, ts, h1, ⟨h2, h3⟩, h4, _⟩ := x.tr
  exact ⟨oe, vs, h1, h2, h3, h4⟩
section
variable {M : Model} {A : Around} {E : Value → Shared → Prop} {s : Shared} {B : Heap} {env : Env} {outer : List Env} {L e : Addr}
theorem fly_entry {oe : Obj} {vs : Array Value} {head : Value} {had : Bool} {Q : Unit → Shared → Prop} (hfr : A.frames = some (env :: outer)) (hl : s.heap.FunFrames B (env :: outer)) (hf : env.frame = some L) (he : s.heap.get? e = some oe) (hB : B.StaysIn s.heap) (hn : B.get? e = none) (hd : oe.data = .fields vs) (hz : 1 < vs.size) (hdn : oe.dict = none)
    (k : ∀ h', FlyAt B (env :: outer) e oe.cls (rawInt L) h' → s.heap.UpToSlots h' → Q () { s with heap := h' }) :
    wpAny M A (do let fr ← frameOf env; let pl ← entryPlaceOf L had; let tb ← EntryCells.newEntry head fr .none (rawInt L) .none pl; setField (.ref e) 1 tb) Q E s := by
  have noFr : e ∉ (env :: outer).filterMap (·.frame) := fun hm => by
    obtain ⟨_, ob, hob, hno⟩ := hl.mem hm
    rw [he] at hob
    cases hob
    exact hno vs hd
  refine wpAny_bind (wpAny_frameOf_fun hfr hl hf fun ha sa => ?_)
  refine wpAny_bind (wpAny_entryPlaceOf fun pl hpl => ?_)
  unfold EntryCells.newEntry newFields
  refine wpAny_bind (wpAny_newObj_type ?_ (hpl.sizeOk5 _ _ _ _ _))
  have ea : ha.get? e = some oe := by rw [sa.2.1 e noFr]; exact he
  have Ba : B.StaysIn ha := fun b o z => by
    rw [sa.2.1 b fun hm => by rw [(hl.mem hm).1] at z; cases z]
    exact hB b o z
  generalize hO : ({ cls := .type "traceback", dict := none, data := .fields ([head, .ref L, .none, rawInt L, .none] ++ (if pl.isEmpty then List.replicate 6 Value.none else pl)).toArray } : Obj) = oT
  have hOd : oT.data = .fields ([head, .ref L, .none, rawInt L, .none] ++ (if pl.isEmpty then List.replicate 6 Value.none else pl)).toArray := by rw [← hO]
  have hOf : oT.isFreed = false := Obj.isFreed_of_fields hOd
  have eb : (ha.push oT).get? e = some oe := Heap.get?_push_of_some _ ea
  have Tb : (ha.push oT).get? ha.objs.size = some oT := Heap.get?_push_size _ hOf
  have Te : ha.objs.size ≠ e := fun z => by rw [← z] at ea; exact absurd (Heap.lt_size ea) (Nat.lt_irrefl _)
  refine wpAny_setField eb hd hz (k _ ?_ ?_)
  · have md := Obj.data_mapFields hd (·.setIfInBounds 1 (Value.ref ha.objs.size))
    have ec := Heap.get?_update_self (Obj.mapFields (·.setIfInBounds 1 (Value.ref ha.objs.size))) eb (Obj.isFreed_of_fields md)
    have Tc : ((ha.push oT).update e (Obj.mapFields (·.setIfInBounds 1 (Value.ref ha.objs.size)))).get? ha.objs.size = some oT := by rw [Heap.get?_update_other _ _ (Ne.symm Te)]; exact Tb
    have kc : ∀ b o, b ≠ e → ha.get? b = some o → ((ha.push oT).update e (Obj.mapFields (·.setIfInBounds 1 (Value.ref ha.objs.size)))).get? b = some o := fun b o nb z => by
      rw [Heap.get?_update_other _ _ (Ne.symm nb)]
      exact Heap.get?_push_of_some _ z
    refine ⟨fun b o z => kc b o (fun q => by rw [q, hn] at z; cases z) (Ba b o z), hn, hl.of_keeps fun b o z hno => ?_, ⟨_, _, ha.objs.size, oT, _, ec, ⟨Obj.cls_mapFields _ _, (dict_mapFields _ _).trans hdn⟩, md, by simp [hz], ?_, Te, Tc, hOd, ?_⟩⟩
    · obtain ⟨sl, z2⟩ := sa.2.2 b o z
      exact ⟨_, kc b _ (fun q => by rw [q, he] at z; cases z; exact hno vs hd) z2, rfl⟩
    · cases q : B.get? ha.objs.size with
      | none => rfl
      | some o => exact absurd (Heap.lt_size (Ba _ _ q)) (Nat.lt_irrefl _)
    · rcases hpl with rfl | ⟨_, _, _, _, _, _, _, rfl⟩ <;> simp
  · intro b o z hno
    obtain ⟨sl, z2⟩ := sa.2.2 b o z
    refine ⟨sl, ?_⟩
    have nb : b ≠ e := fun q => by rw [q, he] at z; cases z; exact hno vs hd
    show ((ha.push oT).update e _).get? b = _
    rw [Heap.get?_update_other _ _ (Ne.symm nb)]
    exact Heap.get?_push_of_some _ z2
/-- the head's flight is set to none -/
theorem fly_lands {l : List Env} {cls fl : Value} {Q : Unit → Shared → Prop} (x : FlyAt B l e cls fl s.heap) (k : ∀ h', Fly B l e cls h' → s.heap.UpToSlots h' → Q () { s with heap := h' }) : wpAny M A (setFlight (.ref e) none) Q E s := by
  obtain ⟨x1, x2, x3, oe, vs, T, oT, ts, t1, t2, t3, t4, t5, t6, t7, t8, t9⟩ := x
  have sz : 3 < ts.size := (Array.getElem?_eq_some_iff.mp t9).1
  unfold setFlight
  refine wpAny_bind (wpAny_field t1 t3 t4 ?_)
  rw [if_pos (by simp)]
  have oth : ∀ b, b ≠ T → (s.heap.update T (Obj.mapFields (·.setIfInBounds 3 Value.none))).get? b = s.heap.get? b := fun b nb => Heap.get?_update_other _ _ (Ne.symm nb)
  have rec0 : ∀ b o, s.heap.get? b = some o → (∀ us, o.data ≠ .fields us) → b ≠ T := fun b o z hno q => by rw [q, t7] at z; cases z; exact hno ts t8
  refine wpAny_setField t7 t8 sz (k _ ⟨fun b o z => ?_, x2, x3.of_keeps fun b o z hno => ⟨o, (oth b (rec0 b o z hno)).trans z, rfl⟩, oe, vs, T, _, _, (oth e (Ne.symm t6)).trans t1, t2, t3, t4, t5, t6, Heap.get?_update_self _ t7 (Obj.isFreed_of_fields (Obj.data_mapFields t8 _)), Obj.data_mapFields t8 _, by simp [sz]⟩ fun b o z hno => ⟨o.slots, (oth b (rec0 b o z hno)).trans z⟩)
  exact (oth b fun q => by rw [q, t5] at z; cases z).trans (x1 b o z)
/-- a frame is noted, further on -/
theorem fly_looks {cls : Value} {Q : Unit → Shared → Prop} (hfr : A.frames = some (env :: outer)) (hf : env.frame = some L) (x : Fly B (env :: outer) e cls s.heap) (k : ∀ h', FlyAt B (env :: outer) e cls (rawInt L) h' → s.heap.UpToSlots h' → Q () { s with heap := h' }) : wpAny M A (noteFrame (.ref e) env) Q E s := by
  obtain ⟨x1, x2, x3, oe, vs, T, oT, ts, t1, ⟨rfl, tdn⟩, t3, t4, t5, t6, t7, t8, t9⟩ := x
  unfold noteFrame
  simp only [hf]
  refine wpAny_bind (wpAny_field t1 t3 t4 ?_)
  rw [if_pos (by simp)]
  refine wpAny_bind (wpAny_field t7 t8 t9 ?_)
  rw [if_neg (by simp [rawInt])]
  refine wpAny_bind (wpAny_setField t7 t8 (Array.getElem?_eq_some_iff.mp t9).1 ?_)
  have oth : ∀ b, b ≠ T → (s.heap.update T (Obj.mapFields (·.setIfInBounds 3 Value.none))).get? b = s.heap.get? b := fun b nb => Heap.get?_update_other _ _ (Ne.symm nb)
  have rec0 : ∀ b o, s.heap.get? b = some o → (∀ us, o.data ≠ .fields us) → b ≠ T := fun b o z hno q => by rw [q, t7] at z; cases z; exact hno ts t8
  refine fly_entry (s := { s with heap := s.heap.update T (Obj.mapFields (·.setIfInBounds 3 Value.none)) }) hfr (x3.of_keeps fun b o z hno => ⟨o, (oth b (rec0 b o z hno)).trans z, rfl⟩) hf ((oth e (Ne.symm t6)).trans t1)
    (fun b o z => (oth b fun q => by rw [q, t5] at z; cases z).trans (x1 b o z)) x2 t3 (Array.getElem?_eq_some_iff.mp t4).1 tdn fun h' f u => k h' f fun b o z hno => u b o ((oth b (rec0 b o z hno)).trans z) hno
theorem fly_out {l : List Env} {cls fl : Value} {h : Heap} (x : FlyAt B (env :: l) e cls fl h) : FlyAt B l e cls fl h := ⟨x.st, x.ne, x.fr.2.2, x.tr⟩
/-- an exception goes on through a frame -/
theorem fly_on {cls : Value} {Q : Unit → Shared → Prop} (hfr : A.frames = some (env :: outer)) (hf : env.frame = some L) (x : Fly B (env :: outer) e cls s.heap) (k : ∀ h', Fly B outer e cls h' → s.heap.UpToSlots h' → Q () { s with heap := h' }) : wpAny M A (leaving env (.ref e)) Q E s := by
  unfold leaving
  refine wpAny_bind (fly_looks hfr hf x fun h1 f1 u1 => ?_)
  exact fly_lands (s := { s with heap := h1 }) f1 fun h2 f2 u2 => k h2 (fly_out f2) (u1.trans u2)
/-- a new exception leaves its first frame -/
theorem fly_made {h : Heap} {cls : Value} {args : List Value} {Q : Unit → Shared → Prop} (hfr : A.frames = some (env :: outer)) (hf : env.frame = some L) (hB : B.StaysIn h) (hl : h.FunFrames B (env :: outer)) (hx : Heap.MadeExcOf h s.heap e cls args)
    (k : ∀ h', Fly B outer e cls h' → s.heap.UpToSlots h' → Q () { s with heap := h' }) : wpAny M A (leaving env (.ref e)) Q E s := by
  obtain ⟨t, he, _, _⟩ := hx.there
  have hn : B.get? e = none := by
    cases q : B.get? e with
    | none => rfl
    | some o =>
      have := hB e o q
      rw [hx.new] at this
      cases this
  unfold leaving noteFrame
  simp only [hf]
  refine wpAny_bind (wpAny_bind (wpAny_field he rfl (x := .none) rfl ?_))
  rw [if_neg (by decide)]
  refine fly_entry hfr (hl.of_keeps fun b o z _ => ⟨o, hx.keeps b o z, rfl⟩) hf he (fun b o z => hx.keeps b o (hB b o z)) hn rfl (by simp) rfl fun h1 f1 u1 => ?_
  exact fly_lands (s := { s with heap := h1 }) f1 fun h2 f2 u2 => k h2 (fly_out f2) (u1.trans u2)
end
end L2

set_option Elab.async false
set_option linter.all false
set_option maxRecDepth 100000
/-! Exceptions over the layer: an exception that a call lets out, and how it leaves the frames. (Part of a road that is not finished: see NOTES.md.) -/
namespace L2
open PySem PySem.Spec PyProof.Rows
section
variable {P : Program} {w : World} {H : Hp} {h h' : Heap} {a : Addr} {o : HO}
theorem ObjOk.there (x : ObjOk P w H h a o) : ∃ ob, h.get? a = some ob := by
  cases o with
  | lst xs => obtain ⟨_, _, _, _, e⟩ := x; exact ⟨_, e⟩
  | tup xs => obtain ⟨_, _, _, ob, e, _⟩ := x; exact ⟨_, e⟩
  | dK kvs => obtain ⟨_, _, _, _, o, _, _, e, _⟩ := x; exact ⟨_, e⟩
  | dT kvs => obtain ⟨_, _, _, _, o, _, _, e, _⟩ := x; exact ⟨_, e⟩
  | set S n => obtain ⟨o, _, _, _, e, _⟩ := x; exact ⟨_, e⟩
  | ins C dx fs => obtain ⟨_, _, _, e, _⟩ := x; exact ⟨_, e⟩
  | own y => obtain ⟨_, e⟩ := x; exact ⟨_, e⟩
  | xd fs => obtain ⟨_, ⟨_, _, _, e, _⟩, _⟩ := x; exact ⟨_, e⟩
  | rng lo hi => obtain ⟨_, _, _, e⟩ := x; exact ⟨_, e⟩
  | frz ob u => obtain ⟨e, _⟩ := x; exact ⟨_, e⟩
  | tbl ps => exact ⟨_, (show h.get? a = some _ from x)⟩
  | met f y => exact ⟨_, (show h.get? a = some _ from x)⟩
  | ext φ => obtain ⟨_, e, _⟩ := x; exact e
/-- only the tracked objects count -/
theorem HOk.tracked (x : HOk P w H h) (k : ∀ b u, H b ≠ none → h.get? b = some u → h'.get? b = some u) : HOk P w H h' := fun b u e =>
  (x b u e).stay (fun c v hc q => k c v (by rcases hc with z | z <;> rw [z] <;> simp_all) q) (fun _ z => z) (fun _ _ z => z)
end
/-- an exception behind a call: a new object e of class cls; B keeps all that was there but the frames -/
def CXE (P : Program) (w : World) : CXT := fun outer H s E v s' => ∃ (e : Addr) (cls : Value) (B : Heap) (H' : Hp), v = .ref e ∧ s'.os = s.os ∧ AllBare s'.gens ∧ Un (frs outer) [] H H' s.heap s'.heap ∧ HOk P w H' s'.heap ∧
  Fly B outer e cls s'.heap ∧ (∀ b o, s.heap.get? b = some o → b ∉ frs outer → ∃ o', B.get? b = some o') ∧ (∀ b, H' b ≠ none → ∃ o, B.get? b = some o) ∧ E cls none H'
section
variable {P : Program} {w : World} {K : PySem.W.Frag} {mg : Str → Option Value} {base : Heap} {N : List Str} {qual : Str} {scope : Scope} {f : Addr} {cd : Value} {A : Around} {outer : List Env} {s : Shared} {H : Hp} {E : XK}
/-- a new exception leaves the body -/
theorem xe_made {pins : List (Addr × Obj)} {σ : St} {H1 : Hp} {s1 : Shared} {h1 : Heap} {e : Addr} {cls : Value} {vs : List Value}
    (I : Inv ((cxOf (CXE P w) P w K mg base N qual scope f cd A outer s H E)) pins σ H1 s1) (hx : Heap.MadeExcOf s1.heap h1 e cls vs) (q : E cls none H1) :
    (cxOf (CXE P w) P w K mg base N qual scope f cd A outer s H E).xe (.ref e) { s1 with heap := h1 } := by
  have hst : s1.heap.FunFrames base (envOfC qual scope s.heap.objs.size f cd :: outer) := I.stack
  have hfr : (A.deeper (envOfC qual scope s.heap.objs.size f cd)).frames = some (envOfC qual scope s.heap.objs.size f cd :: outer) := I.ok.frames
  have hin : ∀ env ∈ (envOfC qual scope s.heap.objs.size f cd :: outer), ∀ b, env.frame = some b → b ∈ frs (envOfC qual scope s.heap.objs.size f cd :: outer) := fun env he b hb => List.mem_filterMap.mpr ⟨env, he, hb⟩
  have hB := PySem.W.funFrames_hide hst hin
  have hloc : (envOfC qual scope s.heap.objs.size f cd).frame = some s.heap.objs.size := rfl
  have hfree : ∀ b ∈ frs (envOfC qual scope s.heap.objs.size f cd :: outer), H1 b = none := I.stkFree
  have hcons : frs (envOfC qual scope s.heap.objs.size f cd :: outer) = s.heap.objs.size :: frs outer := by unfold frs; rw [List.filterMap_cons, hloc]
  refine fly_made (B := PySem.W.hideAll s1.heap (frs (envOfC qual scope s.heap.objs.size f cd :: outer))) hfr hloc (fun b o z => PySem.W.of_hideAll _ z) hB hx fun h2 k1 k4 => ?_
  generalize hBB : PySem.W.hideAll s1.heap (frs (envOfC qual scope s.heap.objs.size f cd :: outer)) = B at *
  have toB : ∀ b o, s1.heap.get? b = some o → b ∉ frs (envOfC qual scope s.heap.objs.size f cd :: outer) → B.get? b = some o := fun b o z n => by rw [← hBB]; exact PySem.W.hideAll_get _ z n
  have keepAll : ∀ b o, s1.heap.get? b = some o → b ∉ frs (envOfC qual scope s.heap.objs.size f cd :: outer) → h2.get? b = some o := fun b o z n => k1.st b o (toB b o z n)
  have base0 : Un (frs outer) [] H H1 s.heap s1.heap := I.base
  have notLoc : ∀ b o, s.heap.get? b = some o → b ∉ frs outer → b ∉ frs (envOfC qual scope s.heap.objs.size f cd :: outer) := fun b o z n hm => by
    rw [hcons] at hm
    rcases List.mem_cons.mp hm with e | e
    · exact absurd (Heap.lt_size z) (by rw [e]; exact Nat.lt_irrefl _)
    · exact n e
  have trackedB : ∀ b u, H1 b = some u → ∃ o, B.get? b = some o := fun b u z => by
    obtain ⟨o, ho⟩ := (I.hok b u z).there
    exact ⟨o, toB b o ho fun hm => by rw [hfree b hm] at z; cases z⟩
  refine ⟨e, cls, B, H1, rfl, I.os, I.bare, ?_, ?_, k1, ?_, ?_, q⟩
  · refine ⟨fun b o z n hb hx' => keepAll b o (base0.keep b o z n hb hx') (notLoc b o z hb), fun b o z n hb hx' => ?_, base0.free, fun b o z hx' => ?_, base0.tups, base0.frzs, base0.tbls⟩
    · obtain ⟨sl, z1⟩ := base0.slot b o z n hb hx'
      have hm : b ∈ frs (envOfC qual scope s.heap.objs.size f cd :: outer) := by rw [hcons]; exact List.mem_cons_of_mem _ hb
      obtain ⟨_, o', ho', hd⟩ := hst.mem hm
      rw [z1] at ho'
      cases ho'
      obtain ⟨sl2, z2⟩ := k4 b _ (hx.keeps b _ z1) hd
      exact ⟨sl2, z2⟩
    · obtain ⟨o1, z1⟩ := base0.there b o z hx'
      by_cases hm : b ∈ frs (envOfC qual scope s.heap.objs.size f cd :: outer)
      · obtain ⟨_, o', ho', hd⟩ := hst.mem hm
        rw [z1] at ho'
        cases ho'
        obtain ⟨sl2, z2⟩ := k4 b _ (hx.keeps b _ z1) hd
        exact ⟨_, z2⟩
      · exact ⟨o1, keepAll b o1 z1 hm⟩
  · exact HOk.tracked I.hok fun b u n z => keepAll b u z fun hm => n (hfree b hm)
  · intro b o z n
    obtain ⟨o1, z1⟩ := base0.there b o z (by simp)
    exact ⟨o1, toB b o1 z1 (notLoc b o z n)⟩
  · intro b n
    cases z : H1 b with
    | none => exact absurd z n
    | some u => exact trackedB b u z
/-- an exception of a callee leaves the body -/
theorem pass_exc {E' : XK} (hE : ∀ c d H', E' c d H' → E c d H') : Passes (CXE P w) (cxOf (CXE P w) P w K mg base N qual scope f cd A outer s H E) E' := by
  rintro pins σ H1 s1 v s2 I ⟨e, cls, B, H2, rfl, os, bare, un, hok, hfl, hfresh, htr, q⟩
  have hst : s1.heap.FunFrames base (envOfC qual scope s.heap.objs.size f cd :: outer) := I.stack
  have hfr : (A.deeper (envOfC qual scope s.heap.objs.size f cd)).frames = some (envOfC qual scope s.heap.objs.size f cd :: outer) := I.ok.frames
  have hloc : (envOfC qual scope s.heap.objs.size f cd).frame = some s.heap.objs.size := rfl
  have hcons : frs (envOfC qual scope s.heap.objs.size f cd :: outer) = s.heap.objs.size :: frs outer := by unfold frs; rw [List.filterMap_cons, hloc]
  have base0 : Un (frs outer) [] H H1 s.heap s1.heap := I.base
  have un' : Un (frs (envOfC qual scope s.heap.objs.size f cd :: outer)) [] H1 H2 s1.heap s2.heap := un
  have hfl' : Fly B (envOfC qual scope s.heap.objs.size f cd :: outer) e cls s2.heap := hfl
  have hfresh' : ∀ b o, s1.heap.get? b = some o → b ∉ frs (envOfC qual scope s.heap.objs.size f cd :: outer) → ∃ o', B.get? b = some o' := hfresh
  have hfree : ∀ b ∈ frs (envOfC qual scope s.heap.objs.size f cd :: outer), H1 b = none := I.stkFree
  refine fly_on (s := s2) hfr hloc hfl' fun h3 k1 k2 => ?_
  have notLoc : ∀ b o, s.heap.get? b = some o → b ∉ frs outer → b ∉ frs (envOfC qual scope s.heap.objs.size f cd :: outer) := fun b o z n hm => by
    rw [hcons] at hm
    rcases List.mem_cons.mp hm with e | e
    · exact absurd (Heap.lt_size z) (by rw [e]; exact Nat.lt_irrefl _)
    · exact n e
  have inB : ∀ b o, s2.heap.get? b = some o → (∃ o', B.get? b = some o') → h3.get? b = some o := fun b o z ⟨o', z'⟩ => by
    have := hfl'.st b o' z'
    rw [z] at this
    cases this
    exact k1.st b o z'
  refine ⟨e, cls, B, H2, rfl, os.trans I.os, bare, ?_, ?_, k1, ?_, htr, hE _ _ _ q⟩
  · refine ⟨fun b o z n hb hx' => ?_, fun b o z n hb hx' => ?_, fun b o z n hx' => ?_, fun b o z hx' => ?_, fun b xs z => un'.tups b xs (base0.tups b xs z), fun b o u z => un'.frzs b o u (base0.frzs b o u z), fun b ps z => ?_⟩
    · have z1 := base0.keep b o z n hb hx'
      have n1 := base0.free b o z n hx'
      have nb := notLoc b o z hb
      exact inB b o (un'.keep b o z1 n1 nb hx') (hfresh' b o z1 nb)
    · obtain ⟨sl, z1⟩ := base0.slot b o z n hb hx'
      have n1 := base0.free b o z n hx'
      have hm : b ∈ frs (envOfC qual scope s.heap.objs.size f cd :: outer) := by rw [hcons]; exact List.mem_cons_of_mem _ hb
      obtain ⟨sl2, z2⟩ := un'.slot b _ z1 n1 hm hx'
      obtain ⟨_, o', ho', hd⟩ := hst.mem hm
      rw [z1] at ho'
      cases ho'
      obtain ⟨sl3, z3⟩ := k2 b _ z2 hd
      exact ⟨sl3, z3⟩
    · obtain ⟨sl, z1⟩ := base0.any z n hx'
      exact un'.free b _ z1 (base0.free b o z n hx') hx'
    · obtain ⟨o1, z1⟩ := base0.there b o z hx'
      obtain ⟨o2, z2⟩ := un'.there b o1 z1 hx'
      by_cases hm : b ∈ frs (envOfC qual scope s.heap.objs.size f cd :: outer)
      · obtain ⟨_, o', ho', hd⟩ := hfl'.fr.mem hm
        rw [z2] at ho'
        cases ho'
        obtain ⟨sl3, z3⟩ := k2 b _ z2 hd
        exact ⟨_, z3⟩
      · exact ⟨o2, inB b o2 z2 (hfresh' b o1 z1 hm)⟩
    · obtain ⟨m1, z1⟩ := base0.tbls b ps z
      obtain ⟨m2, z2⟩ := un'.tbls b _ z1
      exact ⟨m1 ++ m2, by rw [z2, Array.append_assoc]⟩
  · exact HOk.tracked hok fun b u n z => inB b u z (htr b n)
  · intro b o z n
    obtain ⟨o1, z1⟩ := base0.there b o z (by simp)
    exact hfresh' b o1 z1 (notLoc b o z n)
end
end L2
namespace L2
open PySem PySem.Spec PyProof.Rows
/-! ### raise of an own class -/
theorem exc_obj {K : PySem.W.Frag} {h : Heap} {C : Addr} {bmB : List Value} {newId : String} (kin : K.In h) (hq : PySem.W.excIn K C bmB newId = true) :
    ∃ bm nsp nm qn bs hd sn sub ab col dd k0 k1 k2 k3 k5 mN, h.get? C = some (excClassObj nm qn C nsp bs bm hd sn sub ab col dd k0 k1 k2 k3 k5 newId) ∧ h.Ns nsp mN ∧ mN "__init__" = none ∧ OwnTail h bmB bm := by
  unfold PySem.W.excIn at hq
  split at hq
  case h_2 => cases hq
  case h_1 dd cd sl look =>
    split at hq
    case h_2 => cases hq
    case h_1 C' bm k0 k1 k2 k3 n k5 mroE slE =>
      simp only [Bool.and_eq_true, beq_iff_eq, Bool.not_eq_true'] at hq
      obtain ⟨⟨⟨⟨⟨c1, c2⟩, c3⟩, c4⟩, c5⟩, c6⟩ := hq
      subst c1 c2
      rcases cd with ⟨nm, bs, mro, nsp, qn, hd, sn, sub, ab, col, del⟩
      dsimp only at mroE c3 c5 c6
      subst mroE c3
      have slA : sl = #[k0, k1, k2, k3, some (.builtin n), k5] := by
        rcases sl with ⟨lst⟩
        exact congrArg Array.mk slE
      subst slA
      exact ⟨bm, nsp, nm, qn, bs, hd, sn, sub, ab, col, dd, k0, k1, k2, k3, k5, _, kin _ _ look, .of_isNs (PySem.W.isNs_of_in kin c5), PySem.W.nsMap_none_of_in kin c5 c6, PySem.W.tail_of_in kin c4⟩
/-- what holds of an own class under a built-in exception -/
structure ExcCls (K : PySem.W.Frag) (mg : Str → Option Value) (x : Str) (C : Addr) (bmB : List Value) (newId : String) : Prop where
  at_ : mg x = some (.ref C)
  obj : PySem.W.excIn K C bmB newId = true
/-- raise x(e, ..): E of the class -/
def tRaise (C : Addr) (E : XK) (t : TA) : TS := fun _ σ H => t σ H fun vs H1 => vs.length ≤ 3 ∧ E (.ref C) none H1
section
variable {P : Program} {w : World} {K : PySem.W.Frag} {mg : Str → Option Value} {base : Heap} {N : List Str} {qual : Str} {scope : Scope} {f : Addr} {cd : Value} {A : Around} {outer : List Env} {s : Shared} {H : Hp} {E : XK}
theorem ps_raise {x : Str} {C : Addr} {bmB : List Value} {B newId initId : String} {np cpos pos : Pos} {e0 : Expr} {es : List Expr} {t : TA} (hc : ExcCls K mg x C bmB newId) (F : ExcBaseFacts B newId initId bmB)
    (hg : Gl (cxOf (CXE P w) P w K mg base N qual scope f cd A outer s H E) x) (ha : PA (cxOf (CXE P w) P w K mg base N qual scope f cd A outer s H E) (e0 :: es) t)
    (he : starEach (e0 :: es) (envOfC qual scope s.heap.objs.size f cd) = (false, eval e0 (envOfC qual scope s.heap.objs.size f cd)) :: starEach es (envOfC qual scope s.heap.objs.size f cd) := by rfl)
    (hpl : (backTo cpos (starEach es (envOfC qual scope s.heap.objs.size f cd))).any (·.1) = false := by rfl) (hdb : (x == ("__debug__" : Str)) = false := by decide) :
    PS (cxOf (CXE P w) P w K mg base N qual scope f cd A outer s H E) (.Raise (some (.Call (.Name x np) (e0 :: es) [] cpos)) none pos) (tRaise C E t) := by
  intro pins s1 σ H1 D I q
  obtain ⟨bm, nsp, nm, qn, bs, hd, sn, sub, ab, col, dd, k0, k1, k2, k3, k5, mN, o1, o2, o3, o4⟩ := exc_obj I.ok.mod.kin hc.obj
  refine wpAny_Raise_call_subT F (o4.hasType F.hasBase) (I.ok.hd rfl) (by
    show (backTo cpos (starEach (e0 :: es) (envOfC qual scope s.heap.objs.size f cd))).any (·.1) = false
    rw [he]; show (false || (backTo cpos (starEach es (envOfC qual scope s.heap.objs.size f cd))).any (·.1)) = false; rw [hpl]; rfl) o3 ?_ (nm := nm) (q := qn) (C := C) (N := nsp) (bs := bs) (bm := bm) (hdct := hd) (sn := sn) (sub := sub) (ab := ab) (col := col) (dd := dd) (k0 := k0) (k1 := k1) (k2 := k2) (k3 := k3) (k5 := k5)
  refine ld_glob I hg hc.at_ ⟨rfl, ?_⟩ hdb
  have hs := ha cpos pins s1 σ H1 _ I q
  show wpAny _ _ (evalArgs (.ref C) true (backTo cpos (starEach (e0 :: es) (envOfC qual scope s.heap.objs.size f cd))) []) _ _ _
  change wpAny _ _ (spliced (backTo cpos (starEach (e0 :: es) (envOfC qual scope s.heap.objs.size f cd)))) _ _ _ at hs
  rw [he] at hs ⊢
  refine Calls.evalArgs_plain (wpAny_mono hs (fun us s2 h2 => ?_) fun _ _ z => z)
  obtain ⟨vs, H2, I2, r2, hl, q2⟩ := h2
  have hul : us.length ≤ 3 := by rw [← r2.length]; exact hl
  exact ⟨rfl, Nat.le_trans hul (by rw [sizeLine_eq]; decide), I2.bk _ _ o1, o2.keeps I2.bk, o4.keeps I2.bk, fun h' e hm => xe_made I2 hm q2⟩
/-- a call of a def that may raise, in such a def -/
def CalleeE (P : Program) (w : World) (K : PySem.W.Frag) (mg : Str → Option Value) (base : Heap) (x : Str) (k : Nat) (sp : Sp) : Prop :=
  ∃ f fd ps, FnOk P w K mg base (CXE P w) k f fd ps sp ∧ mg x = some (.ref f) ∧ PySem.W.keepIn K (.ref f) = true ∧ Binds K fd ps []
theorem Def.okE {x : Str} {st : Stmt} {N ps : List Str} {k : Nat} {sp : Sp} (D : Def K mg x st) (S : FnScope N ps (defScope st))
    (bd : ∀ (kV doc pm : Value) (an : Option Addr) (cdv ct : Value) (us : List Value), us.length = ps.length → bindArgs (PySem.W.fnOf x x (defArgs st) (defBody st) (defScope st) .none kV doc pm an cdv ct) ⟨us, []⟩ = pure (ps.zip us))
    (len : ∀ vs H Q E, sp vs H Q E → vs.length = ps.length)
    (hbody : ∀ (f : Addr) (cdv : Value) (A : Around) (outer : List Env) (s : Shared) (H : Hp) (vs : List V) (Q : VK) (E : XK), Room k (A.deeper (envOfC x (defScope st) s.heap.objs.size f cdv)) → sp vs H Q E →
      ∃ t, PSs (cxOf (CXE P w) P w K mg base N x (defScope st) f cdv A outer s H E) (defBody st) t ∧ t { nx := fun _ H' => Q .non H', rt := Q } (start N vs) H) : CalleeE P w K mg base x (k + 1) sp := by
  obtain ⟨f, fd, F, hm⟩ := D
  have Fk := F.kp
  have Fb := F.binds bd
  obtain ⟨oc, od, kV, doc, pm, an, cdv, ct, osl, rfl, lk, hcd⟩ := F.ex
  exact ⟨f, _, ps, fn_of lk hcd S len fun A outer s H vs Q E hr hsp => hbody f cdv A outer s H vs Q E hr hsp, hm, Fk, Fb⟩
theorem pe_callE {x : Str} {k : Nat} {sp : Sp} {e0 : Expr} {es : List Expr} {t : TA} {p pos : Pos} {E' : XK} (C : CalleeE P w K mg base x k sp) (hr : Room k (A.deeper (envOfC qual scope s.heap.objs.size f cd))) (hg : Gl (cxOf (CXE P w) P w K mg base N qual scope f cd A outer s H E) x)
    (ha : PA (cxOf (CXE P w) P w K mg base N qual scope f cd A outer s H E) (e0 :: es) t) (hE : ∀ c d H', E' c d H' → E c d H' := by exact fun _ _ _ z => z)
    (he : starEach (e0 :: es) (envOfC qual scope s.heap.objs.size f cd) = (false, eval e0 (envOfC qual scope s.heap.objs.size f cd)) :: starEach es (envOfC qual scope s.heap.objs.size f cd) := by rfl)
    (hpl : (backTo pos (starEach es (envOfC qual scope s.heap.objs.size f cd))).any (·.1) = false := by rfl) (hdb : (x == ("__debug__" : Str)) = false := by decide) :
    PE (cxOf (CXE P w) P w K mg base N qual scope f cd A outer s H E) (.Call (.Name x p) (e0 :: es) [] pos) (tCall sp [] E' t) := by
  obtain ⟨f', fd, ps, F, hm, hk, hb⟩ := C
  exact pe_call F hr hg hm hk hb .nil (pass_exc hE) ha (hdb := hdb) (he := he) (hpl := hpl)
end
end L2

set_option Elab.async false
set_option linter.all false
set_option maxRecDepth 100000
/-! A call within a try: the way of an exception up to the clause. (Not finished: the clause's suite, and calls within it, are to come; see NOTES.md.) -/
namespace L2
open PySem PySem.Spec PyProof.Rows
section
/-- what stays while the exception is looked at -/
theorem un_fly {l : List Env} {H1 H2 : Hp} {h1 h2 h3 B : Heap} (u : Un (frs l) [] H1 H2 h1 h2) (hs : B.StaysIn h2) (hf : h2.FunFrames B l) (hfresh : ∀ b o, h1.get? b = some o → b ∉ frs l → ∃ o', B.get? b = some o') (k1 : B.StaysIn h3) (k2 : h2.UpToSlots h3) : Un (frs l) [] H1 H2 h1 h3 := by
  have inB : ∀ b o, h2.get? b = some o → (∃ o', B.get? b = some o') → h3.get? b = some o := fun b o z ⟨o', z'⟩ => by
    have := hs b o' z'
    rw [z] at this
    cases this
    exact k1 b o z'
  refine ⟨fun b o z n hb hx => inB b o (u.keep b o z n hb hx) (hfresh b o z hb), fun b o z n hb hx => ?_, u.free, fun b o z hx => ?_, u.tups, u.frzs, u.tbls⟩
  · obtain ⟨sl, z1⟩ := u.slot b o z n hb hx
    obtain ⟨_, o', ho', hd⟩ := hf.mem hb
    rw [z1] at ho'
    cases ho'
    obtain ⟨sl2, z2⟩ := k2 b _ z1 hd
    exact ⟨sl2, z2⟩
  · obtain ⟨o2, z2⟩ := u.there b o z hx
    by_cases hm : b ∈ frs l
    · obtain ⟨_, o', ho', hd⟩ := hf.mem hm
      rw [z2] at ho'
      cases ho'
      obtain ⟨sl3, z3⟩ := k2 b _ z2 hd
      exact ⟨_, z3⟩
    · exact ⟨o2, inB b o2 z2 (hfresh b o z hm)⟩
theorem hok_fly {P : Program} {w : World} {H2 : Hp} {h2 h3 B : Heap} (x : HOk P w H2 h2) (hs : B.StaysIn h2) (htr : ∀ b, H2 b ≠ none → ∃ o, B.get? b = some o) (k1 : B.StaysIn h3) : HOk P w H2 h3 :=
  HOk.tracked x fun b u n z => by
    obtain ⟨o', z'⟩ := htr b n
    have := hs b o' z'
    rw [z] at this
    cases this
    exact k1 b _ z'
variable {X : Cx}
/-- the context within a try: what is pinned outside is kept, another wish -/
abbrev Cx.inTry (X : Cx) (pins : List (Addr × Obj)) (ξ : Value → Shared → Prop) : Cx := { X with pn := X.pn ++ pins, xe := ξ }
theorem Cx.Ok.inTry (ok : X.Ok) (pins : List (Addr × Obj)) (ξ : Value → Shared → Prop) : (X.inTry pins ξ).Ok :=
  ⟨ok.mod, ok.kind, ok.glob, ok.blt, ok.above, ok.inj, ok.has, ok.cab, ok.hd, ok.frames, ok.stk, ok.exf, ok.bs, ok.bsz, ok.noex, ok.exfs, ok.funs, ok.frf⟩
theorem Cx.Ok.outTry {pins : List (Addr × Obj)} {ξ : Value → Shared → Prop} (ok : (X.inTry pins ξ).Ok) : X.Ok :=
  ⟨ok.mod, ok.kind, ok.glob, ok.blt, ok.above, ok.inj, ok.has, ok.cab, ok.hd, ok.frames, ok.stk, ok.exf, ok.bs, ok.bsz, ok.noex, ok.exfs, ok.funs, ok.frf⟩
theorem Inv.inTry {pins : List (Addr × Obj)} {σ : St} {H : Hp} {s : Shared} (I : Inv X pins σ H s) (ξ : Value → Shared → Prop) : Inv (X.inTry pins ξ) [] σ H s :=
  ⟨I.ok.inTry pins ξ, I.os, I.bare, I.base, I.loc, I.cell, I.free, I.freeC, fun p hp => I.pin p (by simpa using hp), I.hok, I.len⟩
theorem Inv.outTry {pins pins' : List (Addr × Obj)} {σ : St} {H : Hp} {s : Shared} {ξ : Value → Shared → Prop} (I : Inv (X.inTry pins ξ) pins' σ H s) : Inv X pins σ H s :=
  ⟨I.ok.outTry, I.os, I.bare, I.base, I.loc, I.cell, I.free, I.freeC, fun p hp => I.pin p (List.mem_append_left _ hp), I.hok, I.len⟩
/-- a call whose exceptions may ask for the variables as they are -/
def tCallS (sp : Sp) (Ex : St → XK) (t : TA) : TE := fun σ H Q => t σ H fun vs H1 => sp (vs ++ []) H1 Q (Ex σ)
def PassS (X : Cx) (Ex : St → XK) : Prop := ∀ (pins : List (Addr × Obj)) (σ : St) (H : Hp) (s : Shared) (e : Value) (s' : Shared), Inv X pins σ H s → CXE X.prog X.w X.stack H s (Ex σ) e s' → X.xe e s'
theorem pe_callS {x : Str} {k : Nat} {sp : Sp} {e : Expr} {es : List Expr} {t : TA} {p pos : Pos} {Ex : St → XK} (C : CalleeE X.prog X.w X.K X.mg X.base x k sp) (hr : Room k X.A) (hg : Gl X x) (hx : PassS X Ex) (ha : PA X (e :: es) t)
    (he : starEach (e :: es) X.env = (false, eval e X.env) :: starEach es X.env := by rfl) (hpl : (backTo pos (starEach es X.env)).any (·.1) = false := by rfl) (hdb : (x == ("__debug__" : Str)) = false := by decide) :
    PE X (.Call (.Name x p) (e :: es) [] pos) (tCallS sp Ex t) := by
  obtain ⟨f, fd, ps, F, hm, hk, hb⟩ := C
  intro pins s σ H Q I h
  refine wpAny_Call_Name_kw (ld_glob I hg hm ?_ hdb)
  refine PySem.W.callWith_K (h₀ := X.base) I.ok.mod.kin hk (thn (ha pos pins s σ H _ I h) fun us s1 ⟨vs, H1, I1, r, q⟩ => ⟨I1.kIn, ?_⟩) he hpl
  have r2 : Vals (vs ++ []) (us ++ []) := r.append .nil
  have hl : (us ++ []).length = ps.length := by rw [← r2.length]; exact F.len _ _ _ _ q
  refine wpAny_call (codeAny_mono (F.run X.A X.stack s1 H1 ⟨us, []⟩ (us ++ []) (vs ++ []) Q (Ex σ) hr I1.env0 (hb s1 us I1.kIn hl) r2 q) fun r3 s' hq => ?_)
  cases r3 with
  | error v => exact hx pins σ H1 s1 v s' I1 hq
  | ok fl =>
    cases fl with
    | ret u => exact I1.after hq
    | next => exact False.elim hq
    | brk => exact False.elim hq
    | cont => exact False.elim hq
/-- an object that came since the entry is tracked -/
theorem Inv.trackN {pins : List (Addr × Obj)} {σ : St} {H : Hp} {s : Shared} {D : Addr} {o : HO} (I : Inv X pins σ H s) (hn : H D = none) (hL : D ≠ X.env.locals) (h1 : X.s₀.heap.get? D = none)
    (h2 : ∀ x c, X.env.cells.lookup x = some c → c ≠ D) (h3 : ∀ p ∈ X.pn ++ pins, p.1 ≠ D) (new : ObjOk X.prog X.w (upd H D o) s.heap D o) : Inv X pins σ (upd H D o) s := by
  have up : ∀ b u, H b = some u → upd H D o b = some u := fun b u e => by rw [upd_ne (ne_of_none e hn)]; exact e
  have un : ∀ b, b ≠ D → H b = none → upd H D o b = none := fun b hb e => by rw [upd_ne hb]; exact e
  refine ⟨I.ok, I.os, I.bare, ⟨I.base.keep, I.base.slot, fun b ob e n hx => un b (fun z => by rw [z, h1] at e; cases e) (I.base.free b ob e n hx), I.base.there, fun b xs e => up _ _ (I.base.tups b xs e), fun b ob u e => up _ _ (I.base.frzs b ob u e), fun b ps e => ?_⟩,
    I.loc, I.cell, un _ (Ne.symm hL) I.free, fun x c e => un _ (h2 x c e) (I.freeC x c e), fun p hp => ?_, fun b u e => ?_, I.len⟩
  · obtain ⟨m, e'⟩ := I.base.tbls b ps e
    exact ⟨m, up _ _ e'⟩
  · obtain ⟨e, n, r⟩ := I.pin p hp
    exact ⟨e, un _ (h3 p hp) n, r⟩
  · by_cases hb : b = D
    · subst hb
      rw [upd_same] at e
      cases e
      exact new
    · rw [upd_ne hb] at e
      exact (I.hok b u e).stay (fun _ _ _ z => z) (fun c z => up _ _ z) fun c xs z => up _ _ z
/-- an exception object of the class cls lies at e -/
def ExcAt (e : Addr) (cls : Value) : Heap → Prop := fun h => ∃ o vs, h.get? e = some o ∧ o.cls = cls ∧ o.dict = none ∧ o.data = .fields vs
theorem excAt_ok {P : Program} {w : World} {H : Hp} {h : Heap} {e : Addr} {cls : Value} (x : ExcAt e cls h) : ObjOk P w H h e (.ext (ExcAt e cls)) := by
  obtain ⟨o, vs, z, c⟩ := x
  exact ⟨⟨o, vs, z, c⟩, ⟨o, z⟩, fun h1 h2 ⟨o1, vs1, z1, c1⟩ k => ⟨o1, vs1, k o1 z1, c1⟩⟩
/-- the exception has come to the clauses: where all lies then -/
theorem comes {pins : List (Addr × Obj)} {σ : St} {H1 : Hp} {s1 s2 : Shared} {Ex : XK} {v : Value} {Q : Flow → Shared → Prop} {E : Value → Shared → Prop} {hs : List ExceptHandler} (hstk : X.stack = X.env :: X.outer) (hf : X.env.frame = some X.env.locals) (hex : X.ex = []) (I : Inv X pins σ H1 s1)
    (hq : CXE X.prog X.w X.stack H1 s1 Ex v s2)
    (k : ∀ (e : Addr) (cls : Value) (B : Heap) (H2 : Hp), v = .ref e → Ex cls none H2 → H2 e = none →
      (∀ h6, Fly B X.stack e cls h6 → s2.heap.UpToSlots h6 → Inv X pins σ (upd H2 e (.ext (ExcAt e cls))) { s2 with heap := h6 }) →
      ∀ h3, Fly B X.stack e cls h3 → s2.heap.UpToSlots h3 → wpAny (model X.prog X.w) X.A (handleBy (.ref e) X.env hs) Q E { s2 with heap := h3 }) :
    wpAny (model X.prog X.w) X.A (noteFrame v X.env) (fun _ s3 => wpAny (model X.prog X.w) X.A (setFlight v none) (fun _ s4 => wpAny (model X.prog X.w) X.A (handleBy v X.env hs) Q E s4) E s3) E s2 := by
  obtain ⟨e, cls, B, H2, rfl, os, bare, un, hok, hfl, hfresh, htr, q⟩ := hq
  have hfr : X.A.frames = some (X.env :: X.outer) := by rw [← hstk]; exact I.ok.frames
  have hfl' := hfl
  rw [hstk] at hfl'
  have hnew : s1.heap.get? e = none := by
    cases z : s1.heap.get? e with
    | none => rfl
    | some o =>
      exfalso
      by_cases hm : e ∈ frs X.stack
      · obtain ⟨oe, vs, T, oT, ts, he, _, hd, _⟩ := hfl.tr
        obtain ⟨_, o', ho', hd'⟩ := hfl.fr.mem hm
        rw [he] at ho'
        cases ho'
        exact hd' vs hd
      · obtain ⟨o', z'⟩ := hfresh e o z hm
        rw [hfl.ne] at z'
        cases z'
  have hHe : H2 e = none := by
    cases z : H2 e with
    | none => rfl
    | some u =>
      obtain ⟨o, z'⟩ := htr e (by rw [z]; exact fun y => by cases y)
      rw [hfl.ne] at z'
      cases z'
  have inv6 : ∀ h6, Fly B X.stack e cls h6 → s2.heap.UpToSlots h6 → Inv X pins σ (upd H2 e (.ext (ExcAt e cls))) { s2 with heap := h6 } := fun h6 fl up => by
    have u6 : Un (frs X.stack) [] H1 H2 s1.heap h6 := un_fly un hfl.st hfl.fr hfresh fl.st up
    have I6 : Inv X pins σ H2 { s2 with heap := h6 } := I.call' (s' := { s2 with heap := h6 }) os u6 (hok_fly hok hfl.st htr fl.st) bare (fun b z => absurd z (by simp))
    have hs0 : X.s₀.heap.get? e = none := by
      cases z : X.s₀.heap.get? e with
      | none => rfl
      | some o =>
        obtain ⟨o', z'⟩ := I.base.there e o z (by rw [hex]; simp)
        rw [hnew] at z'
        cases z'
    refine I6.trackN hHe (fun z => ?_) hs0 (fun x c hc z => ?_) (fun p hp z => ?_) (excAt_ok fl.there)
    · obtain ⟨m, hn, _⟩ := I.loc
      obtain ⟨o, _, _, ho, _⟩ := hn
      rw [← z, hnew] at ho
      cases ho
    · obtain ⟨v', o, ho, _⟩ := I.cell x c hc
      rw [z, hnew] at ho
      cases ho
    · have := (I.pin p hp).1
      rw [z, hnew] at this
      cases this
  refine fly_looks (s := s2) hfr hf hfl' fun h4 held4 up4 => ?_
  refine fly_lands held4 fun h5 fl5 up5 => ?_
  exact k e cls B H2 rfl q hHe inv6 h5 (by rw [hstk]; exact fl5) (up4.trans up5)
/-- within a clause: an exception is being handled, none is let out -/
abbrev Cx.inClause (X : Cx) (pins : List (Addr × Obj)) (e : Addr) : Cx := { X with A := X.A.mark (some (.ref e)), calm := false, pn := X.pn ++ pins, xe := fun _ _ => False }
theorem Inv.inClause {pins : List (Addr × Obj)} {σ : St} {H : Hp} {s : Shared} (I : Inv X pins σ H s) (e : Addr) : Inv (X.inClause pins e) [] σ H s :=
  ⟨⟨I.ok.mod, I.ok.kind, I.ok.glob, I.ok.blt, I.ok.above, I.ok.inj, I.ok.has, I.ok.cab, fun h => (by cases h), I.ok.frames, I.ok.stk, I.ok.exf, I.ok.bs, I.ok.bsz, I.ok.noex, I.ok.exfs, I.ok.funs, I.ok.frf⟩, I.os, I.bare, I.base, I.loc, I.cell, I.free, I.freeC, fun p hp => I.pin p (by simpa using hp), I.hok, I.len⟩
theorem Inv.outClause {pins pins' : List (Addr × Obj)} {σ : St} {H : Hp} {s : Shared} {e : Addr} (ok : X.Ok) (I : Inv (X.inClause pins e) pins' σ H s) : Inv X pins σ H s :=
  ⟨ok, I.os, I.bare, I.base, I.loc, I.cell, I.free, I.freeC, fun p hp => I.pin p (List.mem_append_left _ hp), I.hok, I.len⟩
/-- a name of the frame is taken away -/
theorem Inv.unset {pins : List (Addr × Obj)} {σ : St} {H : Hp} {s : Shared} {M : Model} {A : Around} {E : Value → Shared → Prop} {n : Str} {j : Nat} {pos : Pos} {Q : Unit → Shared → Prop} (I : Inv X pins σ H s) (hN : X.N.Nodup) (hj : X.N[j]? = some n) (hl : X.env.kindOf n = some .local)
    (h : ∀ s', Inv X pins (σ.set j none) H s' → Q () s') : wpAny M A (do bindName X.env n .none; unbindBehindTheSuite X.env n pos) Q E s := by
  obtain ⟨m, hn, hm⟩ := id I.loc
  have hcls : (X.env.scope.kind == .class || (X.env.scope.kind == .module && X.env.locals != X.env.globals)) = false := by rw [I.ok.kind]; rfl
  refine wpAny_nameGoes_keeps hl hn hcls fun h' v hn' hs => h _ ?_
  have far : ∀ b o, X.s₀.heap.get? b = some o → b ≠ X.env.locals := fun b o e => Nat.ne_of_lt (Nat.lt_of_lt_of_le (Heap.lt_size e) I.ok.above)
  refine ⟨I.ok, I.os, I.bare, ⟨fun b o e nn hb hx => (hs.2 b (far b o e)).trans (I.base.keep b o e nn hb hx), fun b o e nn hb hx => ?_, I.base.free, fun b o e hx => ?_, I.base.tups, I.base.frzs, I.base.tbls⟩, ⟨_, hn', fun i y v' e1 e2 e3 => ?_⟩, fun y c e => ?_, I.free, I.freeC, fun p hp => ?_, ?_, by simpa using I.len⟩
  · obtain ⟨sl, e1⟩ := I.base.slot b o e nn hb hx
    exact ⟨sl, (hs.2 b (far b o e)).trans e1⟩
  · obtain ⟨o', e1⟩ := I.base.there b o e hx
    exact ⟨o', (hs.2 b (far b o e)).trans e1⟩
  · by_cases hij : i = j
    · subst hij
      rw [List.getElem?_set] at e2
      split at e2
      · split at e2 <;> cases e2
      · exact absurd rfl (by assumption)
    · rw [List.getElem?_set_ne (Ne.symm hij)] at e2
      obtain ⟨u', r', q⟩ := hm i y v' e1 e2 e3
      refine ⟨u', r', ?_⟩
      have hyn : y ≠ n := fun e => hij (nodup_ix hN e1 (e ▸ hj))
      rcases q with ⟨k, e⟩ | ⟨k, c, e, z⟩
      · exact .inl ⟨k, by simp [hyn, e]⟩
      · exact .inr ⟨k, c, e, z.sameBut hs (I.cne y c e)⟩
  · obtain ⟨w', z⟩ := I.cell y c e
    exact ⟨w', z.sameBut hs (I.cne y c e)⟩
  · obtain ⟨e, nn, ne, nf, d⟩ := I.pin p hp
    exact ⟨(hs.2 p.1 ne).trans e, nn, ne, nf, d⟩
  · exact HOk.tracked I.hok fun b u nn z => (hs.2 b fun e => nn (by rw [e]; exact I.free)).trans z
/-- try: body, except T as x: suite (the suite ends of itself) -/
def tTry (K : PySem.W.Frag) (TC : Addr) (j : Nat) (tb : (St → XK) → TS) (ts : TS) : TS := fun D σ H =>
  tb (fun σ' cls _ H' => PySem.W.exmOne K cls (.ref TC) = some true ∧ ∀ e, H' e = none → ts { nx := fun σ2 H2 => D.nx (σ2.set j none) H2, rt := fun _ _ => False } (σ'.set j (some (.ref e))) (upd H' e (.ext (ExcAt e cls)))) D σ H
theorem ps_try {T n : Str} {TC : Addr} {j : Nat} {body : List Stmt} {b0 : Stmt} {suite : List Stmt} {tb : (St → XK) → TS} {ts : TS} {np hpos pos : Pos} (hstk : X.stack = X.env :: X.outer) (hf : X.env.frame = some X.env.locals) (hex : X.ex = [])
    (hT : X.mg T = some (.ref TC)) (hgT : Gl X T) (hN : X.N.Nodup) (hj : X.N[j]? = some n) (hl : X.env.kindOf n = some .local) (hl2 : X.env.scope.names.lookup n = some .local)
    (hb : ∀ (pins : List (Addr × Obj)) (ξ : Value → Shared → Prop) (Ex : St → XK), PassS (X.inTry pins ξ) Ex → PSs (X.inTry pins ξ) body (tb Ex))
    (hs : ∀ (pins : List (Addr × Obj)) (e : Addr), PSs (X.inClause pins e) (b0 :: suite) ts) (hdb : (T == ("__debug__" : Str)) = false := by decide) :
    PS X (.Try body [.ExceptHandler (some (.Name T np)) (some n) (b0 :: suite) hpos] [] [] pos) (tTry X.K TC j tb ts) := by
  intro pins s σ H D I q
  refine wpAny_Try_except ?_
  have hp : PassS (X.inTry pins (fun v s1 => wpAny (model X.prog X.w) X.A (noteFrame v X.env) (fun _ s2 => wpAny (model X.prog X.w) X.A (setFlight v none) (fun _ s3 => wpAny (model X.prog X.w) X.A (handleBy v X.env [.ExceptHandler (some (.Name T np)) (some n) (b0 :: suite) hpos]) (SP X pins D) X.xe s3) X.xe s2) X.xe s1))
      (fun σ' cls _ H' => PySem.W.exmOne X.K cls (.ref TC) = some true ∧ ∀ e, H' e = none → ts { nx := fun σ2 H2 => D.nx (σ2.set j none) H2, rt := fun _ _ => False } (σ'.set j (some (.ref e))) (upd H' e (.ext (ExcAt e cls)))) := by
    intro pins' σ' H' s' v s2 I' hq
    refine comes hstk hf hex I'.outTry hq fun e cls B H2 hv hE hHe inv6 h3 fl3 up3 => ?_
    obtain ⟨hx, hk⟩ := hE
    have I3 := inv6 h3 fl3 up3
    have I3c := I3.inClause e
    refine wpAny_handleBy_cons (codeAny_handlers_test ?_) (by intro z; cases z)
    refine ld_glob (X := X.inClause pins e) I3c hgT hT ?_ hdb
    obtain ⟨oe, _, hoe, hoc, _⟩ := fl3.there
    have LT : PySem.W.Looks (model X.prog X.w) h3 (typeOf (.ref e)) cls := by
      rw [← hoc]
      exact (PySem.W.Looks.ld hoe).andThen .now
    refine PySem.W.exm_one I3.kIn LT hx _ _ _ _ (fun _ _ z => z) ?_
    refine codeAny_handlers_suite_as ?_
    refine fly_lands (s := { s2 with heap := h3 }) fl3 fun h6 fl6 up6 => ?_
    have I6 := inv6 h6 fl6 (up3.trans up6)
    have I6c := I6.inClause e
    refine store_ok (X := X.inClause pins e) (v := .ref e) I6c hN hj (.inl hl2) rfl (fun s7 I7 => ?_) (.inr hl2)
    refine wpAny_mono (hs pins e [] s7 _ _ _ I7 (hk e hHe)) (fun f s8 h8 => ?_) (fun _ _ z => False.elim z)
    cases f with
    | next =>
      obtain ⟨σ8, H8, I8, q8⟩ := h8
      exact Inv.unset (I8.outClause I6.ok) hN hj hl fun s9 I9 => ⟨_, _, I9, q8⟩
    | ret u => obtain ⟨_, _, _, _, _, z⟩ := h8; exact False.elim z
    | brk => obtain ⟨_, _, _, z⟩ := h8; exact False.elim z
    | cont => obtain ⟨_, _, _, z⟩ := h8; exact False.elim z
  have hbody := hb pins _ _ hp [] s σ H D (I.inTry _) q
  refine wpAny_mono hbody (fun f s1 h1 => ?_) (fun _ _ z => z)
  cases f with
  | next =>
    obtain ⟨σ1, H1, I1, q1⟩ := h1
    exact wpAny_execs_nil ⟨σ1, H1, I1.outTry, q1⟩
  | ret u => obtain ⟨v, σ1, H1, I1, r1, q1⟩ := h1; exact ⟨v, σ1, H1, I1.outTry, r1, q1⟩
  | brk => obtain ⟨σ1, H1, I1, q1⟩ := h1; exact ⟨σ1, H1, I1.outTry, q1⟩
  | cont => obtain ⟨σ1, H1, I1, q1⟩ := h1; exact ⟨σ1, H1, I1.outTry, q1⟩
end
end L2

set_option Elab.async false
set_option linter.all false
set_option maxRecDepth 100000
/-! Calls within an except clause: a def's promise that does not ask that nothing is being handled. -/
namespace L2
open PySem PySem.Spec PyProof.Rows
/-- room for a call, whatever is being handled -/
structure RoomN (k : Nat) (A : Around) : Prop where
  dp : A.depth + 3 * k + 5 < recursionLimit
  un : A.units + 16 * k + 200 < cLine
theorem RoomN.deeper {k : Nat} {A : Around} (r : RoomN (k + 1) A) (env : Env) : RoomN k (A.deeper env) :=
  ⟨by have := r.dp; show A.depth + 1 + 3 * k + 5 < _; omega, by have := r.un; show A.units + 3 + 16 * k + 200 < _; omega⟩
theorem Room.noted {k : Nat} {A : Around} (r : Room k A) (v : Option Value) : RoomN k (A.mark v) := ⟨r.dp, r.un⟩
structure FnOkN (P : Program) (w : World) (K : PySem.W.Frag) (mg : Str → Option Value) (base : Heap) (k : Nat) (f : Addr) (fd : FuncData) (ps : List Str) (sp : Sp) : Prop where
  len : ∀ vs H Q E, sp vs H Q E → vs.length = ps.length
  run : ∀ (A : Around) (outer : List Env) (s : Shared) (H : Hp) (args : Args) (us : List Value) (vs : List V) (Q : VK) (E : XK), RoomN k A → Env0 P w K mg base A outer s H → BindsTo s fd args (ps.zip us) → Vals vs us → sp vs H Q E →
    codeAny (model P w) A (.call (.ref f) args) (CR CX0 outer P w H s Q E) s
def CalleeN (P : Program) (w : World) (K : PySem.W.Frag) (mg : Str → Option Value) (base : Heap) (x : Str) (k : Nat) (sp : Sp) : Prop :=
  ∃ f fd ps, FnOkN P w K mg base k f fd ps sp ∧ mg x = some (.ref f) ∧ PySem.W.keepIn K (.ref f) = true ∧ Binds K fd ps []
/-- the context of such a def's body -/
abbrev cxN (P : Program) (w : World) (K : PySem.W.Frag) (mg : Str → Option Value) (base : Heap) (N : List Str) (qual : Str) (scope : Scope) (f : Addr) (cd : Value) (A : Around) (outer : List Env) (s : Shared) (H : Hp) (E : XK) : Cx :=
  { cxOf CX0 P w K mg base N qual scope f cd A outer s H E with calm := false, xe := fun _ _ => False }
section
variable {P : Program} {w : World} {K : PySem.W.Frag} {mg : Str → Option Value} {base : Heap}
theorem inv_startN {N ps : List Str} {qual : Str} {scope : Scope} {f : Addr} {cd : Value} {A : Around} {outer : List Env} {s s1 : Shared} {H : Hp} {E : XK} {us : List Value} {vs : List V} (S : FnScope N ps scope) (e0 : Env0 P w K mg base A outer s H) (hl : vs.length = ps.length) (r : Vals vs us)
    (x : InCallC s s.heap.objs.size (bindL (envOfC qual scope s.heap.objs.size f cd).kindOf (ps.zip us) fun _ => none) (cellsFrom (s.heap.objs.size + 1) scope.names []) (bindC (envOfC qual scope s.heap.objs.size f cd).kindOf (ps.zip us) fun _ => none) s1) :
    Inv (cxN P w K mg base N qual scope f cd A outer s H E) [] (start N vs) H s1 := by
  have I := inv_start (CX := CX0) (E := E) (A := { A with handled := none }) (qual := qual) (f := f) (cd := cd) S rfl ⟨e0.frames, e0.mod, e0.bs, e0.bsz, e0.funs, e0.frf, e0.hok, e0.bare⟩ hl r x
  exact ⟨⟨I.ok.mod, I.ok.kind, I.ok.glob, I.ok.blt, I.ok.above, I.ok.inj, I.ok.has, I.ok.cab, fun h => (by cases h), Around.frames_deeper e0.frames, I.ok.stk, I.ok.exf, I.ok.bs, I.ok.bsz, I.ok.noex, I.ok.exfs, I.ok.funs, I.ok.frf⟩,
    I.os, I.bare, I.base, I.loc, I.cell, I.free, I.freeC, I.pin, I.hok, I.len⟩
theorem Def.okN {x : Str} {st : Stmt} {N ps : List Str} {k : Nat} {sp : Sp} (D : Def K mg x st) (S : FnScope N ps (defScope st))
    (bd : ∀ (kV doc pm : Value) (an : Option Addr) (cdv ct : Value) (us : List Value), us.length = ps.length → bindArgs (PySem.W.fnOf x x (defArgs st) (defBody st) (defScope st) .none kV doc pm an cdv ct) ⟨us, []⟩ = pure (ps.zip us))
    (len : ∀ vs H Q E, sp vs H Q E → vs.length = ps.length)
    (hbody : ∀ (f : Addr) (cdv : Value) (A : Around) (outer : List Env) (s : Shared) (H : Hp) (vs : List V) (Q : VK) (E : XK), RoomN k (A.deeper (envOfC x (defScope st) s.heap.objs.size f cdv)) → sp vs H Q E →
      ∃ t, PSs (cxN P w K mg base N x (defScope st) f cdv A outer s H E) (defBody st) t ∧ t { nx := fun _ H' => Q .non H', rt := Q } (start N vs) H) : CalleeN P w K mg base x (k + 1) sp := by
  obtain ⟨f, fd, F, hm⟩ := D
  have Fk := F.kp
  have Fb := F.binds bd
  obtain ⟨oc, od, kV, doc, pm, an, cdv, ct, osl, rfl, lk, hcd⟩ := F.ex
  refine ⟨f, _, ps, ⟨len, fun A outer s H args us vs Q E hr e0 hb r hsp => ?_⟩, hm, Fk, Fb⟩
  have KX : K.In s.heap := e0.mod.kin.keeps fun b o e => (e0.bs b o e).1
  have lim : s.heap.NoLimit := e0.mod.nolimit.keeps fun b o e => (e0.bs b o e).1
  have hkind : ∀ y ∈ ps.zip us, (defScope st).names.lookup y.1 = some .local ∨ ((defScope st).names.lookup y.1 = some .cell ∧ ((cellsFrom (s.heap.objs.size + 1) (defScope st).names []).lookup y.1).isSome = true) := fun ⟨n, v⟩ hy => by
    rcases S.par n (List.of_mem_zip hy).1 with q | q
    · exact .inl q
    · exact .inr ⟨q, PySem.W.cellsFrom_some _ _ _ (.inl q)⟩
  refine codeAny_call_function (by have := hr.dp; omega) (KX _ _ lk) rfl S.co S.gen rfl (PySem.W.codeRec_of KX hcd) (hb _ _ _ _ ?_)
  refine wpAny_newFunctionEnv_cells S.kind hkind fun env he s1 x1 => ?_
  subst he
  refine ⟨lim.keeps x1.toInCall.keep, codeAny_func ?_⟩
  obtain ⟨t, ht, hq⟩ := hbody f cdv A outer s H vs Q E (hr.deeper _) hsp
  have I := inv_startN (E := E) S e0 (len _ _ _ _ hsp) r x1
  refine wpAny_mono (ht [] s1 (start N vs) H _ I hq) (fun fl s' hs => ?_) fun e s' hs => False.elim hs
  have fin : ∀ {σ' : St} {H' : Hp} {v : V} {u : Value}, Inv (cxN P w K mg base N x (defScope st) f cdv A outer s H E) [] σ' H' s' → RelV v u → Q v H' → CE outer P w H s Q u s' :=
    fun {σ' H' v u} J rv q => ⟨v, H', J.os, J.bare, J.base, J.hok, rv, q⟩
  cases fl with
  | ret u =>
    obtain ⟨v, σ', H', J, rv, q⟩ := hs
    exact fin J rv q
  | next =>
    obtain ⟨σ', H', J, q⟩ := hs
    exact fin (v := V.non) (u := Value.none) J rfl q
  | brk =>
    obtain ⟨_, _, _, q⟩ := hs
    exact False.elim q
  | cont =>
    obtain ⟨_, _, _, q⟩ := hs
    exact False.elim q
end
section
variable {X : Cx}
theorem pe_callC {x : Str} {k : Nat} {sp : Sp} {e : Expr} {es : List Expr} {t : TA} {p pos : Pos} (C : CalleeN X.prog X.w X.K X.mg X.base x k sp) (hr : RoomN k X.A) (hg : Gl X x) (ha : PA X (e :: es) t)
    (he : starEach (e :: es) X.env = (false, eval e X.env) :: starEach es X.env := by rfl) (hpl : (backTo pos (starEach es X.env)).any (·.1) = false := by rfl) (hdb : (x == ("__debug__" : Str)) = false := by decide) :
    PE X (.Call (.Name x p) (e :: es) [] pos) (tCall sp [] E0 t) := by
  obtain ⟨f, fd, ps, F, hm, hk, hb⟩ := C
  intro pins s σ H Q I h
  refine wpAny_Call_Name_kw (ld_glob I hg hm ?_ hdb)
  refine PySem.W.callWith_K (h₀ := X.base) I.ok.mod.kin hk (thn (ha pos pins s σ H _ I h) fun us s1 ⟨vs, H1, I1, r, q⟩ => ⟨I1.kIn, ?_⟩) he hpl
  have r2 : Vals (vs ++ []) (us ++ []) := r.append .nil
  have hl : (us ++ []).length = ps.length := by rw [← r2.length]; exact F.len _ _ _ _ q
  refine wpAny_call (codeAny_mono (F.run X.A X.stack s1 H1 ⟨us, []⟩ (us ++ []) (vs ++ []) Q E0 hr I1.env0 (hb s1 us I1.kIn hl) r2 q) fun r3 s' hq => ?_)
  cases r3 with
  | error v => exact False.elim hq
  | ok fl =>
    cases fl with
    | ret u => exact I1.after hq
    | next => exact False.elim hq
    | brk => exact False.elim hq
    | cont => exact False.elim hq
/-- a global thing of the module, as a value -/
theorem pe_globR {x : Str} {a : Addr} {pos : Pos} (hm : X.mg x = some (.ref a)) (hg : Gl X x) (hd : (x == ("__debug__" : Str)) = false := by decide) : PE X (.Name x pos) (tC (.ref a)) := fun pins s σ H Q I q =>
  ld_glob I hg hm ⟨.ref a, H, I, rfl, q⟩ hd
end
end L2

set_option Elab.async false
set_option linter.all false
set_option maxRecDepth 100000
/-! isinstance of an exception of an own class. -/
namespace L2
open PySem PySem.Spec PyProof.Rows
/-- what isinstance asks of an own class -/
structure IsiCls (K : PySem.W.Frag) (D : Addr) : Prop where
  ga : PySem.W.findIn K (.ref D) "__getattribute__" = some (some (.builtin "BaseException.__getattribute__"))
  gt : PySem.W.findIn K (.ref D) "__getattr__" = some none
  mb : PySem.W.mroIn K D (.type "BaseException") = some true
  hd : PySem.W.hasDictIn K D = true
  ca : PySem.W.findIn K (.ref D) "__class__" = some (some (.builtin "object.__class__"))
  sp : PySem.W.specialIn K (.builtin "object.__class__") "__get__" = some (some (.builtin "getset_descriptor.__get__"))
  tk : PySem.W.takesIn K (.builtin "object.__class__") = some true
  mr : PySem.W.mroIn K D (.type "object") = some true
theorem excAt_inst {h : Heap} {x D : Addr} (e : ExcAt x (.ref D) h) : ∃ ox, PySem.W.InstAt h x ox D none := by
  obtain ⟨o, vs, z, c, d, f⟩ := e
  refine ⟨o, z, c, ?_, ?_⟩
  · rcases o with ⟨c', d', dt, sl⟩
    dsimp only at f
    subst f
    rfl
  · rw [d]
    trivial
theorem exc_class_attr {K : PySem.W.Frag} {x D : Addr} {ox : Obj} {prog : Program} {w : World} {A : Around} {E : Value → Shared → Prop} {s : Shared} {Q : Option Value → Shared → Prop}
    (X : K.In s.heap) (I : PySem.W.InstAt s.heap x ox D none) (C : IsiCls K D) (h : Q (some (.ref D)) { s with toks := s.toks + 1 }) : wpAny (model prog w) A (getAttr? (.ref x) "__class__") Q E s := by
  have hf : PySem.W.findObj K D none "__class__" = some (.bind (.builtin "getset_descriptor.__get__") (.builtin "object.__class__")) := by
    obtain ⟨cd, hc, _⟩ := PySem.W.any_some C.hd
    unfold PySem.W.findObj
    rw [hc]
    simp only [Option.bind_some, C.ca, C.sp, C.tk]
  obtain ⟨hh, g, d, t, os⟩ := s
  have L0 := I.type (M := model prog w)
  have L1 := PySem.W.looks_findIn (M := model prog w) X C.ga
  have L2 := PySem.W.looks_findIn (M := model prog w) X C.gt
  have L3 := PySem.W.looks_mroIn (M := model prog w) X C.mb
  have L4 := PySem.W.looks_find (M := model prog w) X I hf
  have hk : builtinKind "BaseException.__getattribute__" = some .slot := by decide +kernel
  have hsplit : splitId "BaseException.__getattribute__" = some ("BaseException", "__getattribute__") := by decide +kernel
  unfold getAttr? getAttrBy? getAttrBy
  refine wpAny_bind (wpAny_mkText (wpAny_bind (wpAny_attempt (wpAny_holding (wpAny_bind (L0.at (wpAny_bind (L1.at ?_))))))))
  show wpAny _ _ (getAttrByItsOwn _ _ _ _ _ _) _ _ _
  unfold getAttrByItsOwn
  refine wpAny_bind (L2.at (wpAny_bind (wpAny_attempt (wpAny_holding ?_))))
  show wpAny _ _ (boundAndCalled _ _ _) _ _ _
  unfold boundAndCalled
  rw [PySem.F.attr_ValueError.ga.bind]
  refine wpAny_bind (wpAny_pure (wpAny_call (codeAny_call_builtin PySem.F.attr_ValueError.ga.plain PySem.F.entry_bexc_ga ?_)))
  have ha := PySem.F.args_bexc_ga (.ref x) (.str "__class__" t)
  simp only [checkBuiltinCall, hk, hsplit]
  refine wpAny_bind ?_
  unfold isInstance
  refine wpAny_bind (L0.at (L3.at ?_))
  repeat (first | with_reducible refine L4.at ?_ | with_reducible refine L0.at ?_ | wp_step)
  refine PySem.W.class_get (s := ⟨hh, g, d, t + 1, os⟩) (ox := ox) (od := none) X I C.mr ?_
  refine wpAny_pure ?_
  exact PySem.W.handed_on rfl (wpAny_pure h)
theorem kitx_exc {K : PySem.W.Frag} {x D : Addr} (C : IsiCls K D) : PySem.W.KitX K (.ref x) (.ref D) (ExcAt x (.ref D)) where
  ty := fun _ _ _ e => by
    obtain ⟨ox, I⟩ := excAt_inst e
    exact I.type
  it := fun _ _ kin _ => by
    obtain ⟨cd, hc, _⟩ := PySem.W.any_some C.hd
    unfold PySem.W.clsIn at hc
    split at hc
    case h_2 => cases hc
    case h_1 look =>
      intro A' Q' E' s' k q
      unfold isType loadHead
      exact wpAny_bind (wpAny_loadPart (k _ _ (kin _ _ look)) (wpAny_pure q))
  ne := fun h tp dd its n sl kin htp => by
    obtain ⟨cd, hc, _⟩ := PySem.W.any_some C.hd
    cases q : ((Value.ref D) == .ref tp) with
    | false => rfl
    | true =>
      have e : D = tp := Value.ref.inj (beq_iff_eq.mp q)
      unfold PySem.W.clsIn at hc
      split at hc
      case h_2 => cases hc
      case h_1 look =>
        rw [e] at look
        have z := kin _ _ look
        rw [htp] at z
        cases z
  ca := fun {prog w A E Q s} kin e k => by
    obtain ⟨ox, I⟩ := excAt_inst e
    exact exc_class_attr kin I C k
/-- isinstance(e, c): e an exception of an own class -/
def rIsiX (K : PySem.W.Frag) : List V → Hp → VK → Prop := fun xs H Q => ∃ (e D : Addr) (x : V) (c : Value) (b : Bool), xs = [.ref e, x] ∧ (∀ u, RelV x u → u = c) ∧ H e = some (.ext (ExcAt e (.ref D))) ∧ IsiCls K D ∧ PySem.W.kitOne K (.ref D) c = some b ∧ Q (.bl b) H
theorem call_isinstanceX {X : Cx} (K : PySem.W.Frag) (hK : X.K = K := by rfl) : CallR X (.builtin "isinstance") (rIsiX K) := by
  subst hK
  intro pins s σ H xs us Q I r h
  obtain ⟨e, D, x, c, b, rfl, hc, he, C, hk, q⟩ := h
  obtain ⟨u, c', rfl, rx, rc⟩ := vals2 r
  cases (show u = Value.ref e from rx)
  cases hc c' rc
  have he' : ObjOk X.prog X.w H s.heap e (.ext (ExcAt e (.ref D))) := I.hok e _ he
  exact PySem.W.kia_one (kitx_exc C) I.kIn he'.1 hk (fun z => nomatch z) fun tk => ⟨.bl b, H, I.tok tk, rfl, q⟩
end L2

set_option Elab.async false
set_option linter.all false
set_option maxRecDepth 100000
/-! Tuples: comprehensions over one, tuple(list), what isinstance says of one. -/
namespace L2
open PySem PySem.Spec PyProof.Rows
section
variable {K : PySem.W.Frag} {g : TG} {ti : TT} {te : TE} {σc : St} {H : Hp} {Q : VK}
end
def rTupOf (K : PySem.W.Frag) : List V → Hp → VK → Prop := fun xs H Q => ∃ p ys, xs = [.ref p] ∧ ((SqL K H p ys ∧ ∀ l, H l = none → Q (.ref l) (upd H l (.tup ys))) ∨ (SqT K H p ys ∧ Q (.ref p) H))
section
variable {K : PySem.W.Frag} {H : Hp} {Q : VK}
theorem isi_tt : PySem.W.kitOne K (.type "tuple") (.type "tuple") = some true := by kernel_rfl
theorem i_isiTT {a : Addr} {xs : List V} (h : H a = some (.tup xs)) (q : Q (.bl true) H) : rIsi K [.ref a, .ty "tuple"] H Q := ⟨_, _, _, true, rfl, .tup h, isi_tt, q⟩
end
end L2

set_option Elab.async false
set_option linter.all false
namespace L2
open PySem PySem.Spec PyProof.Rows
/-! ### a comprehension within the block of another one -/
end L2

set_option Elab.async false
set_option linter.all false
set_option maxRecDepth 100000
namespace L2
open PySem PySem.Spec PyProof.Rows
/-! ### a comprehension whose block has cells of its own -/
def celC (X : Cx) (scope : Scope) (C : Addr) : List (Str × Addr) := cellsFrom (C + 1) scope.names (clOf X.env scope.names [])
def cxD (X : Cx) (scope : Scope) (C : Addr) (N : List Str) (s₂ : Shared) (H₂ : Hp) (ex : List Addr) (xb : Value → Shared → Prop) : Cx :=
  { X with N := N, s₀ := s₂, H₀ := H₂, env := compEnvC scope (celC X scope C) C X.env, outer := X.stack, stack := X.stack, ex := ex, fn := fun x => scope.names.lookup x == some .cell, pn := [], xe := xb }
structure CompOkD (X : Cx) (scope : Scope) (N : List Str) (fr : List (Option Nat)) : Prop where
  kind : scope.kind = .function
  own : ∀ y ∈ scope.names, y.2 = .cell → scope.names.lookup y.1 = some .cell
  names : ∀ y ∈ scope.names, y.2 = .local → scope.names.lookup y.1 = some .local
  frees : ∀ y ∈ scope.names, y.2 = .free → X.env.kindOf y.1 = some .cell ∨ X.env.kindOf y.1 = some .free
  fr : FrOk X scope N fr
section
variable {X : Cx} {scope : Scope} {N : List Str} {fr : List (Option Nat)} {xb : Value → Shared → Prop}
/-- where the block's cells lie -/
structure Cel (X : Cx) (scope : Scope) (C : Addr) (h : Heap) : Prop where
  get : ∀ x a, (celC X scope C).lookup x = some a → X.env.cells.lookup x = some a ∨ (C < a ∧ (x, NameKind.cell) ∈ scope.names ∧ h.IsCell a none)
end

section
variable {prog : Program} {w : World} {A : Around} {EE : Value → Shared → Prop} {R : Result → Shared → Prop} {s : Shared}
end

/-- the list that grows, apart from all else -/
structure DOk (X : Cx) (D : Addr) : Prop where
  ne : D ≠ X.env.locals
  ab : X.s₀.heap.objs.size ≤ D
  cl : ∀ x a, X.env.cells.lookup x = some a → a ≠ D
  fs : D ∉ X.fs
/-- the invariant of a loop over a clause that is the last one -/
def LastI (J : It) (g : TG) (ti : TT) (te : TE) (σc : St) (ys0 : List V) (H1 : Hp) (Z : List V → Hp → Prop) : Prop := ∃ W : Nat → Nat → List V → Hp → Prop, (∃ m, W 0 m ys0 H1) ∧ ∀ i m ys H, W i m ys H → ys.length < sizeLine ∧
  ((J.stop i H ∧ Z ys H) ∨ (J.go i H ∧ ∃ M : List V → Hp → Prop, (∀ ys' H', M ys' H' → ∃ m', m' < m ∧ W (i + 1) m' ys' H') ∧
    ∀ x H', J.yld i H x H' → g x σc H' fun σ2 H2 => ti σ2 H2 fun b H3 => if b = true then te σ2 H3 fun y H4 => M (ys ++ [y]) H4 else M ys H3))
section
variable {X : Cx} {scope : Scope} {fr1 : List (Option Nat)} {tg iter elt : Expr} {ifs : List Expr} {gens : List Comprehension} {d : Nat} {pos : Pos} {J : It} {g : TG} {ti : TT} {te : TE} {R : Result → Shared → Prop}
end
section
variable {X : Cx} {scope : Scope} {N : List Str} {fr : List (Option Nat)} {tg iter elt : Expr} {ifs : List Expr} {rest : List Comprehension} {pos : Pos} {J : It} {xb : Addr → Value → Shared → Prop}
/-- what holds when the block's loop begins -/
structure Beg (X : Cx) (scope : Scope) (N : List Str) (fr : List (Option Nat)) (xb : Addr → Value → Shared → Prop) (pins : List (Addr × Obj)) (σ : St) (H : Hp) (s₂ : Shared) (fp : List Addr) (D C : Addr) (h₁ : Heap) : Prop where
  ix : Inv X pins σ H s₂
  ds : s₂.heap.objs.size = D
  dc : D < C
  cel : Cel X scope C h₁
  inv : Inv (cxD X scope C N s₂ H fp (xb C)) [] (stC fr σ) H { s₂ with heap := h₁ }
  fpk : ∀ b ∈ fp, FpOk X pins H b ∧ b < s₂.heap.objs.size
  acc : h₁.get? D = some (lob [] 0)
  free : H D = none
section
variable {pins : List (Addr × Obj)} {σ : St} {H : Hp} {s₂ : Shared} {fp : List Addr} {D C : Addr} {h₁ : Heap}
end
end

section
variable {prog : Program} {w : World} {A : Around} {R : Result → Shared → Prop} {s : Shared}
end

def xNo : Addr → Value → Shared → Prop := fun _ _ _ => False
/-! ### one clause -/
section
variable {X : Cx} {scope : Scope} {N : List Str} {fr : List (Option Nat)} {tg iter elt : Expr} {ifs : List Expr} {pos : Pos} {g : TG} {ti : TT} {te : TE}
end
/-! ### two clauses -/
def msk (fr1 : List (Option Nat)) (σ : St) : St := List.zipWith (fun f v => f.bind fun _ => v) fr1 σ
def CompI2 (J : It) (fr1 : List (Option Nat)) (g : TG) (ti : TT) (wi1 : TI) (g1 : TG) (ti1 : TT) (te : TE) (σc : St) (H1 : Hp) (Q : VK) : Prop := ∃ W : Nat → Nat → List V → Hp → Prop, (∃ m, W 0 m [] H1) ∧ ∀ i m ys H, W i m ys H → ys.length < sizeLine ∧
  ((J.stop i H ∧ ∀ l, H l = none → Q (.ref l) (upd H l (.lst ys))) ∨ (J.go i H ∧ ∃ M : List V → Hp → Prop, (∀ ys' H', M ys' H' → ∃ m', m' < m ∧ W (i + 1) m' ys' H') ∧
    ∀ x H', J.yld i H x H' → g x σc H' fun σ2 H2 => ti σ2 H2 fun b H3 => if b = true then wi1 σ2 H3 fun J1 H4 => LastI J1 g1 ti1 te (msk fr1 σ2) ys H4 M else M ys H3))
def tComp2 (fr fr1 : List (Option Nat)) (wi : TI) (g : TG) (ti : TT) (wi1 : TI) (g1 : TG) (ti1 : TT) (te : TE) : TE := fun σ H Q => wi σ H fun J H1 => CompI2 J fr1 g ti wi1 g1 ti1 te (stC fr σ) H1 Q
section
variable {X : Cx} {scope : Scope} {N : List Str} {fr fr1 : List (Option Nat)} {tg iter tg1 iter1 elt : Expr} {ifs ifs1 : List Expr} {pos : Pos} {g g1 : TG} {ti ti1 : TT} {te : TE} {wi1 : TI}
end
section
variable {g g1 : TG} {ti ti1 : TT} {te : TE} {wi1 : TI} {fr1 : List (Option Nat)} {σc : St} {H : Hp} {Q : VK}
end
end L2

set_option Elab.async false
set_option linter.all false
set_option maxRecDepth 100000
/-! xs[::-1], xs.index(i), xs.insert(i, x) -/
namespace L2
open PySem PySem.Spec PyProof.Rows
section
variable {X : Cx} {e k : Expr} {te : TE} {tk : TO} {pos p2 : Pos}
def rRev (K : PySem.W.Frag) : V → Hp → VK → Prop := fun x H Q => ∃ a xs, x = .ref a ∧ SqL K H a xs ∧ ∀ p, H p = none → Q (.ref p) (upd H p (.lst xs.reverse))
def tRev (K : PySem.W.Frag) (te : TE) (tk : TO) : TE := fun σ H Q => te σ H fun x H1 => tk σ H1 fun j H2 => j = some (-1) ∧ rRev K x H2 Q
end
section
variable {X : Cx}
def rIndex : V → List V → Hp → VK → Prop := fun x vs H Q => ∃ l ns k, x = .ref l ∧ vs = [.int k] ∧ H l = some (.lst (iL ns)) ∧ k ∈ ns ∧ Q (.int (ns.idxOf k : Nat)) H
def rInsert : V → List V → Hp → VK → Prop := fun x vs H Q => ∃ l xs y, x = .ref l ∧ vs = [.int 0, y] ∧ H l = some (.lst xs) ∧ xs.length < sizeLine ∧ Q .non (upd H l (.lst (y :: xs)))
end
section
variable {K : PySem.W.Frag} {H : Hp} {Q : VK}
end
end L2

set_option Elab.async false
set_option linter.all false
namespace M
/-! ### wheels: plain mathematics -/
def drag (p a x : Int) : Int := if x < a - p then a - p else if a + p < x then a + p else x
def isTr (ps : List Int) : Prop := 1 ≤ ps.length ∧ ps.length ≤ 12 ∧ ∀ p ∈ ps, 0 ≤ p
def keeps : List Int → Int → List Int → Prop
  | p :: ps, a, x :: xs => (x - a ≤ p ∧ a - x ≤ p) ∧ keeps ps x xs
  | _, _, _ => True
def stand (ps : List Int) (a : Int) (xs : List Int) : Prop := xs.length = ps.length ∧ keeps ps a xs
def dragAll : List Int → List Int → Int → List Int
  | p :: ps, x :: xs, a => drag p a x :: dragAll ps xs (drag p a x)
  | _, _, _ => []
def lastOf : Int → List Int → Int
  | a, [] => a
  | _, x :: xs => lastOf x xs
theorem dropc {α : Type} {xs : List α} {i : Nat} {x : α} (h : xs[i]? = some x) : xs.drop i = x :: xs.drop (i + 1) := by
  obtain ⟨hl, e⟩ := List.getElem?_eq_some_iff.mp h
  rw [List.drop_eq_getElem_cons hl, e]
theorem lastOf_snoc (a x : Int) : ∀ xs : List Int, lastOf a (xs ++ [x]) = x := by
  intro xs
  induction xs generalizing a with
  | nil => rfl
  | cons y ys ih => exact ih y
theorem keeps_snoc {p x : Int} : ∀ (ps xs : List Int) (a : Int), ps.length = xs.length → keeps ps a xs → x - lastOf a xs ≤ p → lastOf a xs - x ≤ p → keeps (ps ++ [p]) a (xs ++ [x])
  | [], [], a, _, _, h1, h2 => ⟨⟨h1, h2⟩, trivial⟩
  | q :: ps, y :: ys, a, hl, h, h1, h2 => ⟨h.1, keeps_snoc ps ys y (by simpa using hl) h.2 h1 h2⟩
  | [], _ :: _, _, hl, _, _, _ => by simp at hl
  | _ :: _, [], _, hl, _, _, _ => by simp at hl
/-! ### rows; wheels by themselves -/
def runs (ps : List Int) : List Int → List Int → List (List Int)
  | _, [] => []
  | ws, c :: row => dragAll ps ws c :: runs ps (dragAll ps ws c) row
def hung (d : Int) : Int → List Int → List Int
  | _, [] => []
  | x, c :: row => drag d c x :: hung d (drag d c x) row
def alone : Int → List Int → List Int → Int → List Int
  | d, p :: ps, x :: xs, a => drag (d + p) a x :: alone (d + p) ps xs a
  | _, _, _, _ => []
def depths : Int → List Int → List Int
  | _, [] => []
  | d, p :: ps => (d + p) :: depths (d + p) ps
/-! ### rows cut, rows filled -/
def endW (ps : List Int) : List Int → List Int → List Int
  | ws, [] => ws
  | ws, c :: row => endW ps (dragAll ps ws c) row
/-- places on the way, in order -/
def Path (a c : Int) : List Int → Prop
  | [] => True
  | s :: ss => ((a ≤ s ∧ s ≤ c) ∨ (c ≤ s ∧ s ≤ a)) ∧ Path s c ss
/-- a row, filled; the marks tell where the row's own places stand -/
def FillOk (a : Int) (row : List Int) (i : Nat) (fs ms : List Int) : Prop := ∀ ps ws : List Int, (∀ p ∈ ps, 0 ≤ p) → keeps ps a ws →
  endW ps ws fs = endW ps ws (row.take i) ∧ ∀ k : Nat, k < i → ∃ m : Nat, ms[k]? = some (m : Int) ∧ m < fs.length ∧ (runs ps ws fs)[m]? = (runs ps ws row)[k]?
def apps : Nat → List (List Int) → List (List Int)
  | _, [] => []
  | k, x :: xs => (x ++ [(k : Int)]) :: apps (k + 1) xs
theorem take_snoc_get {α : Type} {xs : List α} {j : Nat} {x : α} (h : xs[j]? = some x) : xs.take (j + 1) = xs.take j ++ [x] := by
  rw [List.take_add_one, h]; rfl
end M

set_option Elab.async false
set_option linter.all false
namespace M
/-! ### errands: pieces by their numbers, the handle -1 -/
def pc (xs : List Int) (h : Int) (w : Int) : Int := if w < 0 then h else xs.getD w.toNat 0
abbrev Fn := Int → Int
abbrev Must := Int × Int
def mp (D G : Fn) (m : Must) : Int := G m.1 + m.2 * D m.1
def bey (D G : Fn) (a : Must) (w : Int) : Prop := (mp D G a - G w) * a.2 > D w
instance (D G : Fn) (a : Must) (w : Int) : Decidable (bey D G a w) := inferInstanceAs (Decidable (_ > _))
def sgn (F G : Fn) (w : Int) : Int := if F w < G w then 1 else -1
def fm (F G : Fn) : Nat → List Must
  | 0 => if F (-1) = G (-1) then [] else [(-1, sgn F G (-1))]
  | k + 1 => if F k = G k then fm F G k else [((k : Int), sgn F G k)]
def rst (D G : Fn) : Nat → Must → List Must
  | 0, a => if bey D G a (-1) then [(-1, -a.2)] else []
  | k + 1, a => if bey D G a k then ((k : Int), -a.2) :: rst D G k ((k : Int), -a.2) else rst D G k a
def rstOf (D G : Fn) (a : Must) : List Must := if a.1 < 0 then [] else rst D G a.1.toNat a
def paper (n : Nat) (D F G : Fn) : List Must := match fm F G n with
  | [] => []
  | a :: _ => a :: rstOf D G a
/-- where a wheel alone comes to -/
def goj (d x : Int) (row : List Int) : Int := row.foldl (fun x a => drag d a x) x
/-- of the pieces -1 .. n - 1 -/
def Pcs (n : Nat) (D G : Fn) : Prop := D (-1) = 0 ∧ ∀ i j : Int, -1 ≤ i → i ≤ j → j < n → 0 ≤ D i ∧ D i ≤ D j ∧ G j - G i ≤ D j - D i ∧ G i - G j ≤ D j - D i
/-! ### papers -/
def okMust (n : Nat) (m : Must) : Prop := -1 ≤ m.1 ∧ m.1 < n ∧ (m.2 = 1 ∨ m.2 = -1)
def fstOk (F G : Fn) (m : Must) : Prop := F m.1 ≠ G m.1 ∧ m.2 = sgn F G m.1
def nxt (D G : Fn) (a m : Must) : Prop := m.2 = -a.2 ∧ bey D G a m.1
def chain (n : Nat) (D G : Fn) : Must → List Must → Prop
  | _, [] => True
  | a, m :: ms => okMust n m ∧ nxt D G a m ∧ chain n D G m ms
def isPap (n : Nat) (D F G : Fn) : List Must → Prop
  | [] => True
  | m :: ms => okMust n m ∧ fstOk F G m ∧ chain n D G m ms
/-- a paper, must by must -/
def stepAt (D F G : Fn) (ms : List Must) (k : Nat) : Prop := ∀ m, ms[k]? = some m → (k = 0 → fstOk F G m) ∧ ∀ a, 0 < k → ms[k - 1]? = some a → nxt D G a m
/-! ### ways -/
def ab (i : Int) : Int := if i < 0 then -i else i
def way : Int → List Int → Int
  | _, [] => 0
  | h, x :: r => ab (x - h) + way x r
def wayL : List Int → Int
  | [] => 0
  | h :: r => way h r
/-! ### by loops going down -/
def rr (D G : Fn) : Nat → Must → List Must
  | 0, _ => []
  | k + 1, a => rst D G k a
def ff (F G : Fn) : Nat → List Must
  | 0 => []
  | k + 1 => fm F G k
/-! ### lists -/
/-- the told row -/
def told (ps : List Int) (h : Int) (ws : List Int) (e : Int) (gs : List Int) : List Must := paper ps.length (pc (depths 0 ps) 0) (pc ws h) (pc gs e)
def toldRow (ps : List Int) (h : Int) (ws : List Int) (e : Int) (gs : List Int) : List Int := (told ps h ws e gs).map (mp (pc (depths 0 ps) 0) (pc gs e))
end M

set_option Elab.async false
set_option linter.all false
set_option maxRecDepth 100000
/-! (a, b, ..) = a list of that length -/
namespace L2
open PySem PySem.Spec PyProof.Rows
section
variable {prog : Program} {w : World} {A : Around} {E : Value → Shared → Prop} {s : Shared}
theorem isList_ext {h h' : Heap} {l b : Addr} {items : Array Value} (x : h.IsList l items) (e : Heap.ExtBut b h h') (n : l ≠ b) : h'.IsList l items := by
  obtain ⟨o, ho, r⟩ := x
  exact ⟨o, e l o n ho, r⟩
theorem draw_list {it t : Addr} {items : Array Value} (hne : t ≠ it) : ∀ (n i : Nat) (s : Shared) (Q : List Value → Shared → Prop), s.heap.IsListIter it t i → s.heap.IsList t items → i + n ≤ items.size →
    (∀ h', h'.IsListIter it t (i + n) → Heap.SameBut it s.heap h' → Q ((items.toList.drop i).take n) { s with heap := h' }) → wpAny (model prog w) A (draw (.ref it) n) Q E s
  | 0, i, s, Q, hit, _, _, hQ => by
    show wpAny _ _ (pure []) Q E s
    exact wpAny_pure (by simpa using hQ s.heap hit (Heap.SameBut.refl ..))
  | n + 1, i, s, Q, hit, ht, hle, hQ => by
    have hlt : i < items.size := by omega
    show wpAny _ _ (pyNext (.ref it) >>= _) Q E s
    refine wpAny_bind (wpAny_pyNext_list_item hit ht (x := items[i]) (by simp [hlt]) fun h₁ hit₁ hs₁ => ?_)
    refine wpAny_bind (wpAny_holding (draw_list hne n (i + 1) _ _ hit₁ (isList_ext ht hs₁.extBut hne) (by omega) fun h₂ hit₂ hs₂ => wpAny_pure ?_))
    have hd : items.toList.drop i = items[i] :: items.toList.drop (i + 1) := by simp [List.drop_eq_getElem_cons, hlt]
    have := hQ h₂ (by rw [show i + (n + 1) = i + 1 + n by omega]; exact hit₂) (hs₁.trans hs₂)
    rw [hd, List.take_succ_cons] at this
    exact this
end
section
variable {X : Cx} {pos : Pos}
def gLst (K : PySem.W.Frag) (n : Nat) (t : TGs) : TG := fun v σ H Q => ∃ a xs, v = .ref a ∧ SqL K H a xs ∧ xs.length = n ∧ t xs σ H Q
end
end L2

set_option Elab.async false
set_option linter.all false
set_option maxRecDepth 100000
/-! (a, .., *rest) = a list -/
namespace L2
open PySem PySem.Spec PyProof.Rows
section
variable {prog : Program} {w : World} {A : Around} {E : Value → Shared → Prop} {s : Shared}
theorem unpackItems_star {t : Addr} {items : Array Value} {i : Nat} {Q : List Value → Shared → Prop} (hh : A.handled = none) (ht : s.heap.IsList t items) (hi : i ≤ items.size) (hz : items.size ≤ sizeLine)
    (hQ : ∀ h' tk, Heap.ExtBut s.heap.objs.size s.heap h' → Q (items.toList.take i ++ [.ref h'.objs.size]) { s with heap := h'.push { cls := .type "list", data := .seq (items.toList.drop i).toArray }, toks := tk }) :
    wpAny (model prog w) A (unpackItems (.ref t) (i + 1) (some i)) Q E s := by
  have hlt : t ≠ s.heap.objs.size := by obtain ⟨o, ho, _⟩ := ht; exact Nat.ne_of_lt (Heap.lt_size ho)
  have push : ∀ o, (s.heap.push o).IsList t items := fun o => by
    obtain ⟨ob, ho, r⟩ := ht
    exact ⟨ob, Heap.get?_push_of_some _ ho, r⟩
  unfold unpackItems
  refine wpAny_bind ?_
  unfold notIterableAtAll
  refine wpAny_bind (wpAny_specialOf ht.typeIs slot_list_iter.lookup ?_)
  refine wpAny_pure ?_
  simp only [Bool.false_eq_true, if_false]
  refine wpAny_bind (wpAny_holding (wpAny_pyIter_list ht ?_))
  refine wpAny_bind (wpAny_holding (draw_list hlt i 0 _ _ ⟨_, Heap.get?_push_size _ rfl, rfl, rfl⟩ (push _) (by omega) fun h₁ hit₁ hs₁ => ?_))
  have ht₁ : h₁.IsList t items := isList_ext (push _) hs₁.extBut hlt
  rw [Nat.zero_add] at hit₁
  obtain ⟨oi, hoi, _⟩ := id hit₁
  obtain ⟨ol, hol, _⟩ := id ht₁
  rw [List.drop_zero]
  have hfl : (items.toList.take i).length = i := by rw [List.length_take, Array.length_toList]; omega
  rw [if_neg (show ¬ ((items.toList.take i).length < i) by rw [hfl]; omega)]
  refine wpAny_bind (wpAny_holding (PySem.W.kun_collect (s := { s with heap := h₁ }) (T := "list_iterator") (.inr (.inr (.inl rfl))) (Walks.list (A := A.in1) hh s.heap.objs.size t hlt items) (fun j u st => st.1.typeIs) (k := i) (by omega) ⟨hit₁, ht₁⟩ (Heap.lt_size hoi) (Heap.lt_size hol) (fun h₂ tk hk => ?_) hz))
  have hrl : (items.toList.drop i).length = items.size - i := by rw [List.length_drop, Array.length_toList]
  show wpAny _ _ (if (items.toList.drop i).length < i + 1 - 1 - i then _ else _) _ _ _
  rw [if_neg (by omega)]
  show wpAny _ _ (newList ((items.toList.drop i).take ((items.toList.drop i).length - (i + 1 - 1 - i))) >>= fun d => pure (items.toList.take i ++ [d] ++ (items.toList.drop i).drop ((items.toList.drop i).length - (i + 1 - 1 - i)))) _ _ _
  have e0 : i + 1 - 1 - i = 0 := by omega
  rw [e0, Nat.sub_zero, List.take_length, List.drop_length]
  have he : Heap.ExtBut s.heap.objs.size s.heap h₂ := fun b o hb e => hk b o hb (hs₁.extBut b o hb (Heap.get?_push_of_some _ e))
  refine wpAny_bind (wpAny_newList (s := { s with heap := h₂, toks := tk }) (wpAny_pure ?_) (by rw [hrl]; omega))
  rw [List.append_nil]
  exact hQ h₂ tk he
theorem assign_Tuple_star {env : Env} {elts : List Expr} {x1} {pos : Pos} {t : Addr} {items : Array Value} {i : Nat} {Q : Unit → Shared → Prop} (hh : A.handled = none) (ht : s.heap.IsList t items) (hi : i ≤ items.size) (hz : items.size ≤ sizeLine)
    (hn : (assignEach elts env).length = i + 1) (hstar : (assignEach elts env).findIdx? (·.1) = some i)
    (h : ∀ h' tk, Heap.ExtBut s.heap.objs.size s.heap h' → wpAny (model prog w) A (assignInOrder ((assignEach elts env).map (·.2)) (items.toList.take i ++ [.ref h'.objs.size])) Q E { s with heap := h'.push { cls := .type "list", data := .seq (items.toList.drop i).toArray }, toks := tk }) :
    wpAny (model prog w) A (assign (.Tuple elts x1 pos) env (.ref t)) Q E s := by
  rw [assign_Tuple]
  refine wpAny_bind (wpAny_standAt ?_)
  unfold unpack
  rw [hn, hstar]
  exact wpAny_bind (wpAny_holding (unpackItems_star hh ht hi hz h))
end
section
variable {X : Cx} {pos : Pos}
/-- the last target takes what is left, as a new list -/
def gStar (K : PySem.W.Frag) (n : Nat) (t : TGs) : TG := fun v σ H Q => ∃ a xs, v = .ref a ∧ SqL K H a xs ∧ n ≤ xs.length ∧ ∀ p, H p = none → t (xs.take n ++ [.ref p]) σ (upd H p (.lst (xs.drop n))) Q
theorem pg_star {es : List Expr} {k : Nat} {t : TGs} {n : Nat} (hc : X.calm = true) (h : PGs X es t)
    (hn : (assignEach es X.env).length = n + 1 := by rfl) (hst : (assignEach es X.env).findIdx? (·.1) = some n := by rfl) : PG X (.Tuple es k pos) (gStar X.K n t) := by
  intro pins s σ H v u Q I r hw
  obtain ⟨a, xs, e1, hq, hl, hw⟩ := hw
  subst e1
  cases r
  obtain ⟨its, rv, ht, hz⟩ := I.list hq
  have hlen : its.length = xs.length := rv.length.symm
  refine assign_Tuple_star (I.ok.hd hc) ht.isList (by rw [List.size_toArray]; omega) (by rw [List.size_toArray]; omega) hn hst fun h' tk hx => ?_
  have I1 : Inv X pins σ H { s with heap := h', toks := tk } := I.kept (t' := tk) fun b o e => hx b o (Nat.ne_of_lt (Heap.lt_size e)) e
  have I2 := I1.laid (t' := tk) (o := .lst (xs.drop n)) (h' := h'.push { cls := .type "list", data := .seq (its.drop n).toArray }) (fun b ob q => Heap.get?_push_of_some _ q) (Nat.le_refl _) ?_
  · exact h pins _ σ _ _ _ Q I2 (by simpa using (rv.take n).append (.cons (show RelV (.ref h'.objs.size) (.ref h'.objs.size) from rfl) .nil)) (hw _ (I1.hok.fresh (Nat.le_refl _)))
  · exact ⟨by rw [List.length_drop]; omega, _, 0, rv.drop n, Heap.get?_push_size _ rfl⟩
theorem pg_starK (K : PySem.W.Frag) {es : List Expr} {k : Nat} {t : TGs} (n : Nat) (h : PGs X es t) (hc : X.calm = true := by rfl) (hn : (assignEach es X.env).length = n + 1 := by rfl) (hst : (assignEach es X.env).findIdx? (·.1) = some n := by rfl) (hK : X.K = K := by rfl) : PG X (.Tuple es k pos) (gStar K n t) := by
  subst hK; exact pg_star hc h hn hst
theorem pgs_star {e : Expr} {es : List Expr} {t : TG} {u : TGs} {p : Pos} (h1 : PG X e t) (h2 : PGs X es u) : PGs X (.Starred e p :: es) (gCons t u) := by
  intro pins s σ H vs us Q I r h
  obtain ⟨v, vr, e1, h⟩ := h
  subst e1
  cases r with
  | cons r rr =>
    show wpAny _ _ (assignInOrder (assign e X.env :: (assignEach es X.env).map (·.2)) _) _ _ s
    refine assignInOrder_cons (thn (h1 pins s σ H _ _ _ I r h) fun _ s1 ⟨σ1, H1, I1, q1⟩ => ?_)
    exact h2 pins s1 σ1 H1 _ _ Q I1 rr q1
end
end L2

set_option Elab.async false
set_option linter.all false
set_option maxRecDepth 100000
set_option maxHeartbeats 4000000
/-! Texts: startswith, split, join, slices, items, int, str -/
namespace L2
open PySem PySem.Spec PyProof.Rows
section
variable {X : Cx}
def rStarts : V → List V → Hp → VK → Prop := fun x xs H Q => ∃ a b, x = .str a ∧ xs = [.str b] ∧ Q (.bl (Txt.startswith a b)) H
theorem mt_startswith : MtM X "str.startswith" rStarts := by
  intro pins s σ H x xs v us Q I rx rv h
  obtain ⟨a, b, rfl, rfl, q⟩ := h
  obtain ⟨t, rfl⟩ := rx
  obtain ⟨u, rfl, t', rfl⟩ := Vals.one rv
  exact SC.startswith ⟨.bl _, H, I, rfl, q⟩
theorem strs_vals : ∀ l : List (Str × Tok), Vals ((l.map (·.1)).map V.str) (strValues l)
  | [] => .nil
  | p :: l => .cons ⟨_, rfl⟩ (strs_vals l)
theorem strs_of : ∀ {ss : List Str} {us : List Value}, Vals (ss.map V.str) us → ∃ l : List (Str × Tok), us = strValues l ∧ l.map (·.1) = ss
  | [], _, .nil => ⟨[], rfl, rfl⟩
  | a :: ss, _, .cons ⟨t, e⟩ r => by
    obtain ⟨l, rfl, rfl⟩ := strs_of r
    exact ⟨(a, t) :: l, by rw [e]; rfl, rfl⟩
/-- a new list of texts is laid -/
theorem strs_new {pins : List (Addr × Obj)} {s : Shared} {σ : St} {H : Hp} {Q : VK} {l : List (Str × Tok)} {k : Nat} (I : Inv X pins σ H s) (hz : l.length ≤ sizeLine) (q : ∀ p, H p = none → Q (.ref p) (upd H p (.lst ((l.map (·.1)).map V.str)))) :
    EP X pins σ Q (.ref s.heap.objs.size) { s with heap := s.heap.push { cls := .type "list", data := .seq (strValues l).toArray }, toks := k } :=
  ⟨.ref _, _, I.lnew (t' := k) (strs_vals l) (by simpa [strValues] using hz), rfl, q _ I.fresh⟩
def rSplit : V → List V → Hp → VK → Prop := fun x xs H Q => ∃ a b, x = .str a ∧ xs = [.str b] ∧ (b.length == 0) = false ∧ a.length ≤ 50000 ∧ (Txt.split a b).length ≤ 50001 ∧ ∀ p, H p = none → Q (.ref p) (upd H p (.lst ((Txt.split a b).map V.str)))
theorem mt_split : MtM X "str.split" rSplit := by
  intro pins s σ H x xs v us Q I rx rv h
  obtain ⟨a, b, rfl, rfl, hb, ha, hn, q⟩ := h
  obtain ⟨t, rfl⟩ := rx
  obtain ⟨u, rfl, t', rfl⟩ := Vals.one rv
  have one : Txt.split a b = [a] → EP X pins σ Q (.ref s.heap.objs.size) { s with heap := s.heap.push { cls := .type "list", data := .seq #[.str a t] } } := fun e => by
    rw [e] at q
    exact strs_new (l := [(a, t)]) (k := s.toks) I (szl (by simp)) q
  cases h1 : (decide (a.length < b.length) || decide (Builtin.Str.strKind a < Builtin.Str.strKind b)) with
  | true => exact call_meets F.slot_str_split (typeIs_str _ _ _) F.entry_str_split (F.args_str_split_2 _ _) (meets_str_split_cannot_occur a b t t' h1) (one (if_pos h1))
  | false =>
    have n1 := ne_true_of_eq_false h1
    cases hf : (Builtin.Str.occurrences a b 0 a.length (a.length + 1)).isEmpty with
    | true => exact call_meets F.slot_str_split (typeIs_str _ _ _) F.entry_str_split (F.args_str_split_2 _ _) (meets_str_split_not_found a b t t' h1 hb hf) (one ((if_neg n1).trans (if_pos hf)))
    | false =>
      have e : Txt.split a b = Builtin.Str.partsBetween a (Builtin.Str.occurrences a b 0 a.length (a.length + 1)) b.length := (if_neg n1).trans (if_neg (ne_true_of_eq_false hf))
      rw [e] at q hn
      refine call_meets F.slot_str_split (typeIs_str _ _ _) F.entry_str_split (F.args_str_split_2 _ _) (meets_str_split_sep a b t t' h1 hb hf (szl (by omega)) (szl (by omega))) ?_
      generalize Builtin.Str.partsBetween a (Builtin.Str.occurrences a b 0 a.length (a.length + 1)) b.length = ps at q hn
      have hl : (numbered s.toks ps).map (·.1) = ps := numbered_texts _ _
      have := strs_new (l := numbered s.toks ps) (k := s.toks + ps.length) I (szl (by rw [← List.length_map (f := (·.1)), hl]; omega)) (by rw [hl]; exact q)
      rw [← strsFrom_eq] at this
      exact this
def rJoin (K : PySem.W.Frag) : V → List V → Hp → VK → Prop := fun x xs H Q => ∃ a p ss, x = .str a ∧ xs = [.ref p] ∧ SqL K H p (ss.map V.str) ∧ (ss.map (·.length)).sum + ss.length * a.length ≤ 100000 ∧ Q (.str (Str.join a ss)) H
theorem joinOk_sum {a : Str} {ss : List Str} (h : (ss.map (·.length)).sum + ss.length * a.length ≤ 100000) : JoinOk a ss = true := by
  unfold JoinOk
  rw [StrLaws.joinTotal]
  unfold Builtin.Str.tooLong sizeLine
  rw [Bool.not_eq_true']
  exact decide_eq_false (by omega)
theorem mt_join : MtM X "str.join" (rJoin X.K) := by
  intro pins s σ H x xs v us Q I rx rv h
  obtain ⟨a, p, ss, rfl, rfl, hp, hn, q⟩ := h
  obtain ⟨t, rfl⟩ := rx
  obtain ⟨u, rfl, ru⟩ := Vals.one rv
  cases ru
  obtain ⟨its, rs, pl, hz⟩ := I.list hp
  obtain ⟨l, rfl, hl⟩ := strs_of rs
  refine SC.join pl.isList hl (joinOk_sum hn) fun t' k => ?_
  have e : Txt.join a ss = Str.join a ss := StrLaws.glued_eq_join a ss
  rw [e]
  exact ⟨.str _, H, I.kept (t' := k) (fun _ _ z => z), ⟨_, rfl⟩, q⟩
theorem mt_joinK (K : PySem.W.Frag) (hK : X.K = K := by rfl) : MtM X "str.join" (rJoin K) := by subst hK; exact mt_join
/-- a slice of a text -/
def rSlS : V → Option Int → Option Int → Hp → VK → Prop := fun x lo hi H Q => ∃ z, x = .str z ∧ z.length ≤ 100000 ∧ Q (.str (Txt.slice z lo hi)) H
theorem sl_str : SlR X rSlS := by
  intro pins s σ H x v vl vu lo hi sl Q I rx hs pl pu h
  obtain ⟨z, rfl, hz, q⟩ := h
  obtain ⟨t, rfl⟩ := rx
  have hh : ∃ l u : Option (Int × Tok), s.heap.IsSlice sl l u none ∧ l.map (·.1) = lo ∧ u.map (·.1) = hi := by
    obtain ⟨o, h1, h2, h3⟩ := hs
    cases pl with
    | none =>
      cases pu with
      | none => exact ⟨none, none, ⟨o, h1, h2, h3⟩, rfl, rfl⟩
      | int j tj => exact ⟨none, some (j, tj), ⟨o, h1, h2, h3⟩, rfl, rfl⟩
    | int i ti =>
      cases pu with
      | none => exact ⟨some (i, ti), none, ⟨o, h1, h2, h3⟩, rfl, rfl⟩
      | int j tj => exact ⟨some (i, ti), some (j, tj), ⟨o, h1, h2, h3⟩, rfl, rfl⟩
  obtain ⟨l, u, hS, rfl, rfl⟩ := hh
  refine ⟨"str", _, F.slot_str_getitem.lookup, typeIs_str _ _ _, wpAny_getItem_str_slice hS rfl (post_val_or_str ⟨Nat.le_trans (Txt.slice_le z _ _) (szl hz), fun t' k => ?_⟩)⟩
  exact ⟨.str _, H, I.kept (t' := k) (fun _ _ e => e), ⟨_, rfl⟩, q⟩
def rSlQ (K : PySem.W.Frag) : V → Option Int → Option Int → Hp → VK → Prop := fun x lo hi H Q => rSlL K x lo hi H Q ∨ rSlS x lo hi H Q
theorem sl_Q {K : PySem.W.Frag} (hK : X.K = K := by rfl) : SlR X (rSlQ K) := by subst hK; exact sl_list.or sl_str
def rAddQ : R2 := fun x y H Q => rAddP x y H Q ∨ ∃ i j, x = .str i ∧ y = .str j ∧ i.length + j.length ≤ sizeLine ∧ Q (.str (i ++ j)) H
theorem op_addQ : OpR X (binaryOp .Add) rAddQ := op_addP.or op_add_str
def rIxQ (K : PySem.W.Frag) : R2 := fun x y H Q => rIxP K x y H Q ∨ rIxS x y H Q
def rMulQ : R2 := fun x y H Q => rMulP x y H Q ∨ ∃ z n, x = .str z ∧ y = .int n ∧ 0 ≤ n ∧ z.length * n.toNat ≤ 100000 ∧ n ≤ 100000 ∧ Q (.str (Txt.mul z n)) H
def rIntQ : List V → Hp → VK → Prop := fun vs H Q => rIntOf vs H Q ∨ ∃ z n, vs = [.str z] ∧ intText? z = some n ∧ z.length ≤ 640 ∧ Q (.int n) H
theorem op_mul_str : OpR X (binaryOp .Mult) fun x y H Q => ∃ z n, x = .str z ∧ y = .int n ∧ 0 ≤ n ∧ z.length * n.toNat ≤ 100000 ∧ n ≤ 100000 ∧ Q (.str (Txt.mul z n)) H := by
  intro pins s σ H x y v u Q I rx ry h
  obtain ⟨z, n, rfl, rfl, h0, h1, h2, q⟩ := h
  obtain ⟨t, rfl⟩ := rx
  obtain ⟨t', rfl⟩ := ry
  refine SB.mul ⟨?_, fun _ _ => ?_, fun _ _ => ?_⟩ fun t' k => ⟨.str _, H, I.kept (t' := k) (fun _ _ e => e), ⟨_, rfl⟩, q⟩
  · rw [Bool.or_eq_false_iff]
    exact ⟨decide_eq_false (by omega), decide_eq_false (by omega)⟩
  · by_cases hn : n = 0
    · subst hn
      omega
    · have hz : z.length ≤ 100000 := Nat.le_trans (Nat.le_mul_of_pos_right _ (by omega)) h1
      have : (100000 : Int) ≤ (2 ^ 63 - 1) / n := (Int.le_ediv_iff_mul_le (by omega)).mpr (by omega)
      omega
  · unfold Builtin.Str.tooLong sizeLine
    exact decide_eq_false (by omega)
theorem op_mulQ : OpR X (binaryOp .Mult) rMulQ := op_mulP.or op_mul_str
theorem ix_Q {K : PySem.W.Frag} (hK : X.K = K := by rfl) : IxR X (rIxQ K) := by subst hK; exact ix_P.or ix_str
theorem call_intS : CallR X (.type "int") fun vs H Q => ∃ z n, vs = [.str z] ∧ intText? z = some n ∧ z.length ≤ 640 ∧ Q (.int n) H := by
  intro pins s σ H xs us Q I r h
  obtain ⟨z, n, rfl, hn, hl, q⟩ := h
  obtain ⟨u, rfl, t, rfl⟩ := vals1 r
  exact PySem.W.KIN.call_text hn hl ⟨.int _, H, I.tok _, ⟨_, rfl⟩, q⟩
theorem call_intQ : CallR X (.type "int") rIntQ := call_intK.or call_intS
/-- in, not in: texts, or a list or tuple of flat things -/
def rInQ (K : PySem.W.Frag) (neg : Bool) : R2 := fun x y H Q => rIn K neg x y H Q ∨ ∃ i j, x = .str i ∧ y = .str j ∧ Q (.bl (if neg then !(!(Builtin.Str.occurrences j i 0 j.length 1).isEmpty) else !(Builtin.Str.occurrences j i 0 j.length 1).isEmpty)) H
theorem op_inQ {K : PySem.W.Frag} (hK : X.K = K := by rfl) : OpR X (compareOp .In) (rInQ K false) := by
  intro pins s σ H x y v u Q I rx ry h
  rcases h with h | ⟨i, j, e1, e2, q⟩
  · exact op_inK K hK pins s σ H x y v u Q I rx ry h
  · exact op_in_str pins s σ H x y v u Q I rx ry ⟨i, j, e1, e2, q⟩
theorem op_notInQ {K : PySem.W.Frag} (hK : X.K = K := by rfl) : OpR X (compareOp .NotIn) (rInQ K true) := by
  intro pins s σ H x y v u Q I rx ry h
  rcases h with h | ⟨i, j, e1, e2, q⟩
  · exact op_notInK K hK pins s σ H x y v u Q I rx ry h
  · exact op_notin_str pins s σ H x y v u Q I rx ry ⟨i, j, e1, e2, q⟩
end
/-! ### the signs of a text, one by one -/
def Itc (x : Str) : It := ⟨fun i _ => i < x.length, fun i H v H' => H' = H ∧ ∃ c, v = .str ⟨#[c]⟩ ∧ x.cps.toList[i]? = some c, fun i _ => x.length ≤ i⟩
theorem turn_asc {P : Program} {w : World} {K : PySem.W.Frag} {tg : Expr} (x : Str) (t : Tok) (q : Addr) : Turn P w K tg (Itc x) [q] q (fun i h => h.IsStrIter q "str_ascii_iterator" x t i) where
  mem := by simp
  obj := fun i h st b hb => by
    obtain rfl : b = q := by simpa using hb
    obtain ⟨o, e, c, d⟩ := st
    exact ⟨o, e, fun v z => by rw [d] at z; cases z⟩
  keep := fun i h h' st k => by
    obtain ⟨o, e, c, d⟩ := st
    exact ⟨o, k q (by simp) o e, c, d⟩
  item := by
    intro X hP hw hK hc i pins s σ H E I hf st hg
    subst hP hw hK
    obtain ⟨c, hx⟩ : ∃ c, x.cps[i]? = some c := ⟨_, Array.getElem?_eq_getElem (show i < x.cps.size from hg)⟩
    obtain ⟨f0, f1, f2, f3, f4, f5⟩ := hf q (by simp)
    refine wpAny_pyNext_ascii_item st hx fun h' st' sb => ?_
    have I1 : Inv X pins σ H { s with heap := h', toks := s.toks + 1 } := I.turned (t' := s.toks + 1) (fun b o hb e => (sb.2 b hb).trans e) f0 f1 f3 f4 f5
    obtain ⟨o, e, c', d⟩ := id st'
    exact ⟨_, rfl, go_of (s := { s with heap := h', toks := s.toks + 1 }) e c' d (by decide) ⟨.str ⟨#[c]⟩, H, I1, ⟨_, rfl⟩, ⟨rfl, c, rfl, by simpa using hx⟩, st', fun b hb => (hf b hb).1⟩⟩
  done := by
    intro X hP hw hK hc i pins s σ H E I hf st hg
    subst hP hw hK
    obtain ⟨f0, f1, f2, f3, f4, f5⟩ := hf q (by simp)
    exact wpAny_pyNext_ascii_end (I.ok.hd hc) st (Array.getElem?_eq_none (show x.cps.size ≤ i from hg)) fun h' eb => ⟨rfl, I.turned (t' := s.toks) (fun b o hb e => eb b o hb e) f0 f1 f3 f4 f5⟩
  self := fun _ _ _ _ _ st h => wpAny_pyIter_striter_ascii st h
def iStr (te : TE) : TI := fun σ H R => te σ H fun v H1 => ∃ x, v = .str x ∧ x.cps.all (· < 128) = true ∧ R (Itc x) H1
section
variable {X : Cx} {tg : Expr}
theorem pi_str {e : Expr} {te : TE} (he : PE X e te) : PI X tg e (iStr te) := by
  intro pins s σ H R I h
  refine thn (he pins s σ H _ I h) fun v s1 ⟨x, H1, I1, r1, q1⟩ => ?_
  obtain ⟨z, rfl, ha, q⟩ := q1
  obtain ⟨t, rfl⟩ := r1
  refine wpAny_pyIter_ascii ha ⟨s1.heap.objs.size, [s1.heap.objs.size], _, _, H1, rfl, I1.kept (t' := s1.toks) fun b o e => Heap.get?_push_of_some _ e, turn_asc z t _, ⟨_, Heap.get?_push_size _ rfl, rfl, rfl⟩, fun b hb => ?_, q⟩
  obtain rfl : b = s1.heap.objs.size := by simpa using hb
  exact I1.fpOk (Nat.le_refl _) (I1.hok.fresh (Nat.le_refl _))
end
section
variable {g : TG} {tb : TS} {D : Ends} {σ : St} {H : Hp} {ti : TT} {te : TE} {σc : St} {Q : VK}
theorem lp_str {x : Str} (Pv : Nat → St → Hp → Prop) (h0 : Pv 0 σ H)
    (hs : ∀ i c σ H, x.cps.toList[i]? = some c → Pv i σ H → g (.str ⟨#[c]⟩) σ H fun σ2 H2 => tb { D with nx := Pv (i + 1), ct := Pv (i + 1), bk := D.nx } σ2 H2)
    (hd : ∀ σ H, Pv x.length σ H → D.nx σ H) : LoopI (Itc x) g tb D σ H := by
  refine ⟨fun i m σ H => m = x.length - i ∧ i ≤ x.length ∧ Pv i σ H, ⟨_, rfl, Nat.zero_le _, h0⟩, ?_⟩
  rintro i m σ H ⟨rfl, hi, p⟩
  by_cases hlt : i < x.length
  · refine .inr ⟨hlt, Pv (i + 1), fun σ' H' p' => ⟨_, by omega, rfl, hlt, p'⟩, fun v H' y => ?_⟩
    obtain ⟨rfl, c, rfl, hc⟩ := y
    exact hs i c σ H' hc p
  · have e : i = x.length := by omega
    exact .inl ⟨by show x.length ≤ i; omega, hd σ H (by rw [← e]; exact p)⟩
theorem cp_str {x : Str} (Pv : Nat → List V → Hp → Prop) (h0 : Pv 0 [] H) (hl : ∀ i ys H, Pv i ys H → ys.length ≤ i) (hx : x.length < sizeLine)
    (hs : ∀ i c ys H, x.cps.toList[i]? = some c → Pv i ys H → g (.str ⟨#[c]⟩) σc H fun σ2 H2 => ti σ2 H2 fun b H3 => if b = true then te σ2 H3 fun y H4 => Pv (i + 1) (ys ++ [y]) H4 else Pv (i + 1) ys H3)
    (hd : ∀ l ys H, Pv x.length ys H → H l = none → Q (.ref l) (upd H l (.lst ys))) : CompI (Itc x) g ti te σc H Q := by
  refine ⟨fun i m ys H => m = x.length - i ∧ i ≤ x.length ∧ Pv i ys H, ⟨_, rfl, Nat.zero_le _, h0⟩, ?_⟩
  rintro i m ys H ⟨rfl, hi, p⟩
  have hy := hl i ys H p
  refine ⟨by omega, ?_⟩
  by_cases hlt : i < x.length
  · refine .inr ⟨hlt, Pv (i + 1), fun σ' H' p' => ⟨_, by omega, rfl, hlt, p'⟩, fun v H' y => ?_⟩
    obtain ⟨rfl, c, rfl, hc⟩ := y
    exact hs i c ys H' hc p
  · have e : i = x.length := by omega
    exact .inl ⟨by show x.length ≤ i; omega, fun l hl => hd l ys H (by rw [← e]; exact p) hl⟩
end
theorem pe_globS {X : Cx} {x z : Str} {pos : Pos} (h : ∃ t, X.mg x = some (.str z t)) (hg : Gl X x) (hd : (x == ("__debug__" : Str)) = false := by decide) : PE X (.Name x pos) (tC (.str z)) := by
  obtain ⟨t, h⟩ := h
  exact pe_glob hg h ⟨t, rfl⟩ hd
/-! ### how the readings are answered -/
section
variable {K : PySem.W.Frag} {H : Hp} {Q : VK} {x y : Str} {i j : Int}
theorem i_addQI (q : Q (.int (i + j)) H) : rAddQ (.int i) (.int j) H Q := .inl (i_addI q)
theorem i_addQS (h : x.length + y.length ≤ 100000) (q : Q (.str (x ++ y)) H) : rAddQ (.str x) (.str y) H Q := .inr ⟨_, _, rfl, rfl, szl h, q⟩
theorem i_mulQI (c : CMul i j) (q : Q (.int (i * j)) H) : rMulQ (.int i) (.int j) H Q := .inl (i_mulI c q)
theorem i_slS {lo hi : Option Int} (h : x.length ≤ 100000) (q : Q (.str (Txt.slice x lo hi)) H) : rSlQ K (.str x) lo hi H Q := .inr ⟨_, rfl, h, q⟩
theorem i_ixS {c : Nat} (h : x.length ≤ 100000) (h0 : 0 ≤ i) (e : x.cps.toList[i.toNat]? = some c) (q : Q (.str ⟨#[c]⟩) H) : rIxQ K (.str x) (.int i) H Q := by
  have := atI_nat (xs := x.cps.toList) (j := i.toNat) (v := c) e
  rw [show ((i.toNat : Nat) : Int) = i by omega] at this
  exact .inr ⟨_, _, _, rfl, rfl, szl h, this, q⟩
theorem i_inS (q : Q (.bl (!(Builtin.Str.occurrences y x 0 y.length 1).isEmpty)) H) : rInQ K false (.str x) (.str y) H Q := .inr ⟨_, _, rfl, rfl, q⟩
theorem i_inC {c : Nat} (q : Q (.bl (decide (c ∈ y.cps.toList))) H) : rInQ K false (.str ⟨#[c]⟩) (.str y) H Q := i_inS (by rw [StrLaws.found_one]; exact q)
theorem i_notInC {c : Nat} (q : Q (.bl (!decide (c ∈ y.cps.toList))) H) : rInQ K true (.str ⟨#[c]⟩) (.str y) H Q := .inr ⟨_, _, rfl, rfl, by
  show Q (.bl (!(!(Builtin.Str.occurrences y ⟨#[c]⟩ 0 y.length 1).isEmpty))) H
  rw [StrLaws.found_one]
  exact q⟩
theorem i_starts (q : Q (.bl (Txt.startswith x y)) H) : rStarts (.str x) [.str y] H Q := ⟨_, _, rfl, rfl, q⟩
theorem i_lenS (h : x.length ≤ 100000) (q : Q (.int x.length) H) : rLen K [.str x] H Q := ⟨_, _, rfl, ⟨szl h, rfl⟩, q⟩
end
end L2

set_option Elab.async false
set_option linter.all false
set_option maxRecDepth 100000
set_option maxHeartbeats 4000000
/-! What texts mean -/
namespace L2
open PySem M
abbrev sg (x : Str) : List Nat := x.cps.toList
theorem sg_ext {x y : Str} (h : sg x = sg y) : x = y := by
  cases x; cases y
  congr 1
  exact Array.ext' h
theorem sg_len (x : Str) : (sg x).length = x.length := Array.length_toList
theorem sg_app (x y : Str) : sg (x ++ y) = sg x ++ sg y := by
  show (x.cps ++ y.cps).toList = _
  simp
/-! slices -/
theorem ix_hi (x : Str) {j : Int} (h : 0 ≤ j) (l : Option Int) : Builtin.Str.strSliceIndices l (some j) 1 x.length = Builtin.Str.strSliceIndices l (some (min j x.length)) 1 x.length := by
  have e1 : ¬ j < 0 := by omega
  have e2 : ¬ min j (x.length : Int) < 0 := by omega
  have e3 : min (min j (x.length : Int)) x.length = min j x.length := by omega
  simp only [Builtin.Str.strSliceIndices, e1, e2, if_false, e3, show (1 : Int) > 0 from by decide, if_true]
theorem ix_lo (x : Str) {i : Int} (h : 0 ≤ i) (u : Option Int) : Builtin.Str.strSliceIndices (some i) u 1 x.length = Builtin.Str.strSliceIndices (some (min i x.length)) u 1 x.length := by
  have e1 : ¬ i < 0 := by omega
  have e2 : ¬ min i (x.length : Int) < 0 := by omega
  have e3 : min (min i (x.length : Int)) x.length = min i x.length := by omega
  simp only [Builtin.Str.strSliceIndices, e1, e2, if_false, e3, show (1 : Int) > 0 from by decide, if_true]
theorem txt_to (x : Str) {j : Int} (h : 0 ≤ j) : sg (Txt.slice x none (some j)) = (sg x).take j.toNat := by
  have e : Txt.slice x none (some j) = StrLaws.sliceText x none (some (min j x.length)) := by
    unfold Txt.slice StrLaws.sliceText
    rw [ix_hi x h]
  have hl := sg_len x
  rw [e, StrLaws.sliceText_to ⟨by omega, by show _ ≤ ((sg x).length : Int); omega⟩]
  show ((sg x).drop 0).take _ = _
  rw [List.drop_zero]
  by_cases hj : j ≤ x.length
  · rw [show (min j (x.length : Int) - 0).toNat = j.toNat by omega]
  · rw [List.take_of_length_le (by omega), List.take_of_length_le (by omega)]
theorem txt_from (x : Str) {i : Int} (h : 0 ≤ i) : sg (Txt.slice x (some i) none) = (sg x).drop i.toNat := by
  have e : Txt.slice x (some i) none = StrLaws.sliceText x (some (min i x.length)) none := by
    unfold Txt.slice StrLaws.sliceText
    rw [ix_lo x h]
  have hl := sg_len x
  rw [e, StrLaws.sliceText_from ⟨by omega, by show _ ≤ ((sg x).length : Int); omega⟩]
  show ((sg x).drop _).take _ = _
  rw [List.take_of_length_le (by rw [List.length_drop]; show _ ≤ (((sg x).length : Int) - _).toNat; omega)]
  by_cases hi : i ≤ x.length
  · rw [show (min i (x.length : Int)).toNat = i.toNat by omega]
  · rw [List.drop_of_length_le (by omega), List.drop_of_length_le (by omega)]
theorem starts_one (x : Str) (c : Nat) : Txt.startswith x ⟨#[c]⟩ = decide ((sg x).head? = some c) := by
  unfold Txt.startswith
  rw [StrLaws.subAt_eq]
  show (decide (0 + 1 ≤ x.length) && (((sg x).drop 0).take 1 == [c])) = _
  rw [List.drop_zero, ← sg_len]
  cases sg x with
  | nil => simp
  | cons a r =>
    simp
    rw [Bool.eq_iff_iff]
    simp
/-! number words -/
def figs (w : List Nat) : List Nat := if w.head? = some 45 then w.tail else w
def numW (w : List Nat) : Prop := 1 ≤ (figs w).length ∧ (figs w).length ≤ 40 ∧ (∀ c ∈ figs w, 48 ≤ c ∧ c ≤ 57) ∧ ((figs w).head? ≠ some 48 ∨ w = [48])
instance (w : List Nat) : Decidable (numW w) := by unfold numW; infer_instance
abbrev tx (n : Int) : Str := Str.ofString (toString n)
def valOf (x : Str) : Int := (intText? x).getD 0
theorem back_sign {cs : List Nat} (h : NumText.AllDigits cs) : (cs.map Char.ofNat).map Char.toNat = cs := by
  rw [List.map_map]
  conv => rhs; rw [← List.map_id cs]
  refine List.map_congr_left fun c hc => ?_
  have := h c hc
  have : ∀ n : Nat, n < 58 → (Char.ofNat n).toNat = n := by decide
  exact this c (by omega)
theorem digits_back {cs : List Nat} (h : NumText.AllDigits cs) (h1 : 1 ≤ cs.length) (h2 : cs.head? ≠ some 48 ∨ cs = [48]) : (Nat.toDigits 10 (NumText.digitsVal cs)).map Char.toNat = cs := by
  obtain ⟨n, hn⟩ : ∃ n, cs.length = n + 1 := ⟨cs.length - 1, by omega⟩
  rw [NumText.toDigits_digitsVal n cs hn h ?_, back_sign h]
  rcases h2 with h2 | rfl
  · cases cs with
    | nil => simp at h1
    | cons c r =>
      have hc := h c (by simp)
      refine .inr ⟨c, r, rfl, ?_⟩
      simp at h2
      omega
  · exact .inl (by simpa using hn.symm)
theorem num_word {x : Str} (h : numW (sg x)) : ∃ n : Int, intText? x = some n ∧ tx n = x := by
  obtain ⟨h1, h2, h3, h4⟩ := h
  unfold figs at *
  split at h1
  · rename_i hm
    rw [if_pos hm] at h2 h3 h4
    obtain ⟨cs, hx⟩ : ∃ cs, sg x = 45 :: cs := by
      cases e : sg x with
      | nil => rw [e] at hm; cases hm
      | cons a r => rw [e] at hm; simp at hm; exact ⟨r, by rw [hm]⟩
    rw [hx] at h1 h2 h3 h4
    simp only [List.tail_cons] at h1 h2 h3 h4
    have hd : NumText.AllDigits cs := h3
    have hne : cs ≠ [] := fun z => by rw [z] at h1; simp at h1
    have hl : x.length ≤ 4300 := by rw [← sg_len, hx]; simp; omega
    refine ⟨_, intText_neg hx hd hne hl, ?_⟩
    have hh : cs.head? ≠ some 48 ∨ cs = [48] := by
      rcases h4 with z | z
      · exact .inl z
      · cases z
    have hp : 0 < NumText.digitsVal cs := by
      cases cs with
      | nil => exact absurd rfl hne
      | cons c r =>
        have hc := hd c (by simp)
        refine NumText.digitsVal_pos ?_
        rcases h4 with z | z
        · simp at z
          omega
        · cases z
    refine sg_ext ?_
    rw [hx]
    have hb := digits_back hd h1 hh
    obtain ⟨k, hk⟩ : ∃ k, NumText.digitsVal cs = k + 1 := ⟨NumText.digitsVal cs - 1, by omega⟩
    rw [hk] at hb ⊢
    show sg (Str.ofString (toString (Int.negSucc k))) = _
    rw [sg, PyProof.Rows.signs_ofString]
    show (("-" ++ Nat.repr (k + 1) : String)).toList.map Char.toNat = _
    rw [String.toList_append, List.map_append, Nat.toList_repr, hb]
    rfl
  · rename_i hm
    rw [if_neg hm] at h2 h3 h4
    have hd : NumText.AllDigits (sg x) := h3
    have hne : sg x ≠ [] := fun z => by rw [z] at h1; simp at h1
    refine ⟨_, intText_digits hd hne (by rw [← sg_len]; omega), ?_⟩
    refine sg_ext ?_
    show (Str.ofString (toString ((NumText.digitsVal (sg x) : Nat) : Int))).cps.toList = _
    rw [PySem.W.KIN.signs_num]
    exact digits_back hd h1 h4
/-! parted and joined -/
def Asc (x : Str) : Prop := ∀ c ∈ sg x, c < 128
instance (x : Str) : Decidable (Asc x) := by unfold Asc; infer_instance
theorem Asc.all {x : Str} (h : Asc x) : x.cps.all (· < 128) = true := by
  rw [← Array.all_toList]
  exact List.all_eq_true.mpr fun c hc => decide_eq_true (h c hc)
theorem Asc.ok {x : Str} (h : Asc x) : PyData.strOk x = true := by
  unfold PyData.strOk
  rw [← Array.all_toList]
  exact List.all_eq_true.mpr fun c hc => decide_eq_true (Nat.lt_trans (h c hc) (by decide))
theorem Asc.app {x y : Str} (h : Asc x) (h' : Asc y) : Asc (x ++ y) := fun c hc => by
  rw [sg_app] at hc
  rcases List.mem_append.mp hc with z | z
  · exact h c z
  · exact h' c z
theorem join_cons (s a b : Str) (r : List Str) : Str.join s (a :: b :: r) = a ++ s ++ Str.join s (b :: r) := rfl
theorem join_mem (s : Str) : ∀ {ss : List Str} {p : Str} {c : Nat}, p ∈ ss → c ∈ sg p → c ∈ sg (Str.join s ss)
  | [a], p, c, hp, hc => by
    have : p = a := by simpa using hp
    rw [← this]
    exact hc
  | a :: b :: r, p, c, hp, hc => by
    rw [join_cons, sg_app, sg_app]
    rcases List.mem_cons.mp hp with rfl | hp
    · exact List.mem_append_left _ (List.mem_append_left _ hc)
    · exact List.mem_append_right _ (join_mem s hp hc)
theorem join_asc {s : Str} (hs : Asc s) : ∀ {ss : List Str}, (∀ p ∈ ss, Asc p) → Asc (Str.join s ss)
  | [], _ => fun c hc => by cases hc
  | [a], h => h a (by simp)
  | a :: b :: r, h => by
    rw [join_cons]
    exact ((h a (by simp)).app hs).app (join_asc hs fun p hp => h p (by simp only [List.mem_cons] at hp ⊢; exact .inr hp))
theorem app_len (x y : Str) : (x ++ y).length = x.length + y.length := by rw [← sg_len, sg_app, List.length_append, sg_len, sg_len]
theorem join_len (s : Str) : ∀ {ss : List Str}, ss ≠ [] → (Str.join s ss).length + s.length = (ss.map (·.length)).sum + ss.length * s.length
  | [], h => absurd rfl h
  | [a], _ => by simp [Str.join]
  | a :: b :: r, _ => by
    have ih := join_len s (ss := b :: r) (by simp)
    rw [join_cons, app_len, app_len]
    simp only [List.map_cons, List.sum_cons, List.length_cons, Nat.succ_mul] at ih ⊢
    omega
theorem split_ne (x y : Str) : Txt.split x y ≠ [] := by
  unfold Txt.split
  split
  · simp
  · split
    · simp
    · rw [StrLaws.partsBetween_eq]
      obtain ⟨p, r, e⟩ := StrLaws.partsFrom_ne x y.length 0 (Builtin.Str.occurrences x y 0 x.length (x.length + 1))
      rw [e]
      simp
theorem mem_sum_le : ∀ {ss : List Str} {p : Str}, p ∈ ss → p.length ≤ (ss.map (·.length)).sum
  | a :: r, p, h => by
    simp only [List.map_cons, List.sum_cons]
    rcases List.mem_cons.mp h with rfl | h
    · omega
    · have := mem_sum_le h
      omega
structure Parted (x : Str) (ss : List Str) : Prop where
  ne : ss ≠ []
  asc : Asc x → ∀ p ∈ ss, Asc p
  sum : (ss.map (·.length)).sum + ss.length = x.length + 1
  len : ∀ p ∈ ss, p.length ≤ x.length
theorem split_ok (x : Str) (c : Nat) : Parted x (Txt.split x ⟨#[c]⟩) := by
  have e := StrLaws.join_split x ⟨#[c]⟩
  have hn := split_ne x ⟨#[c]⟩
  have hl := join_len ⟨#[c]⟩ hn
  rw [e, show (⟨#[c]⟩ : Str).length = 1 from rfl, Nat.mul_one] at hl
  have hpos : 0 < (Txt.split x ⟨#[c]⟩).length := List.length_pos_iff.mpr hn
  refine ⟨hn, fun ha p hp d hd => ha d ?_, hl.symm, fun p hp => ?_⟩
  · rw [← e]
    exact join_mem _ hp hd
  · have := mem_sum_le hp
    omega
/-! what a row, what a text means -/
def nums? (name : Str) (least : Nat) (row : Str) : Option (List Int) :=
  match Txt.split row ⟨#[32]⟩ with
  | [] => none
  | a :: r => if a = name ∧ least ≤ r.length ∧ ∀ p ∈ r, numW (sg p) then some (r.map valOf) else none
theorem val_back {r : List Str} (h : ∀ p ∈ r, numW (sg p)) : (r.map valOf).map tx = r := by
  rw [List.map_map]
  conv => rhs; rw [← List.map_id r]
  refine List.map_congr_left fun p hp => ?_
  obtain ⟨n, h1, h2⟩ := num_word (h p hp)
  show tx ((intText? p).getD 0) = p
  rw [h1]
  exact h2
theorem nums_back {name row : Str} {least : Nat} {ns : List Int} (h : nums? name least row = some ns) (hl : 1 ≤ least) : row = name ++ ⟨#[32]⟩ ++ Str.join ⟨#[32]⟩ (ns.map tx) ∧ least ≤ ns.length := by
  unfold nums? at h
  have e := StrLaws.join_split row ⟨#[32]⟩
  cases hs : Txt.split row ⟨#[32]⟩ with
  | nil => rw [hs] at h; cases h
  | cons a r =>
    rw [hs] at h e
    simp only at h
    split at h
    · rename_i hc
      obtain ⟨rfl, h1, h2⟩ := hc
      cases h
      rw [val_back h2]
      refine ⟨?_, by simpa using h1⟩
      cases r with
      | nil => simp at h1; omega
      | cons b r => rw [← e]; rfl
    · cases h
def two? : Option (List Int) → Option (List Int) → Option (List Int × Int × List Int)
  | some ps, some (h :: ws) => some (ps, h, ws)
  | _, _ => none
def meant? (text : Str) : Option (List Int × Int × List Int) :=
  match Txt.split text ⟨#[10]⟩ with
  | [r0, r1] => two? (nums? "plays" 1 r0) (nums? "at" 2 r1)
  | _ => none
theorem meant_back {text : Str} {ps ws : List Int} {h : Int} (e : meant? text = some (ps, h, ws)) : text = Str.join ⟨#[10]⟩ [("plays " : Str) ++ Str.join ⟨#[32]⟩ (ps.map tx), ("at " : Str) ++ Str.join ⟨#[32]⟩ ((h :: ws).map tx)] ∧ 1 ≤ ps.length ∧ 1 ≤ ws.length := by
  unfold meant? at e
  have j := StrLaws.join_split text ⟨#[10]⟩
  split at e
  · rename_i r0 r1 hs
    rw [hs] at j
    unfold two? at e
    split at e
    · rename_i qs k us h0 h1
      cases e
      obtain ⟨a1, a2⟩ := nums_back h0 (by decide)
      obtain ⟨b1, b2⟩ := nums_back h1 (by decide)
      refine ⟨?_, a2, by simpa using b2⟩
      rw [← j, a1, b1]
      rfl
    · cases e
  · cases e
/-! how long numbers are -/
def Small (n : Int) : Prop := n.natAbs < 10 ^ 60
theorem small_log {n : Int} (h : Small n) : n.natAbs.log2 < 1920 := by
  by_cases h0 : n.natAbs = 0
  · rw [h0]
    decide
  · exact (Nat.log2_lt h0).mpr (Nat.lt_trans h (by decide +kernel))
theorem tx_nat (m : Nat) : sg (tx (m : Int)) = (Nat.toDigits 10 m).map Char.toNat := PySem.W.KIN.signs_num m
theorem tx_neg (k : Nat) : sg (tx (Int.negSucc k)) = 45 :: (Nat.toDigits 10 (k + 1)).map Char.toNat := by
  rw [sg, PyProof.Rows.signs_ofString]
  show (("-" ++ Nat.repr (k + 1) : String)).toList.map Char.toNat = _
  rw [String.toList_append, List.map_append, Nat.toList_repr]
  rfl
theorem small_len {n : Int} (h : Small n) : (tx n).length ≤ 61 := by
  rw [← sg_len]
  cases n with
  | ofNat m =>
    show (sg (tx (m : Int))).length ≤ 61
    rw [tx_nat, List.length_map]
    exact Nat.le_trans (toDigits_len_pow (by decide) (by decide) (show m < 10 ^ 60 from h)) (by decide)
  | negSucc k =>
    rw [tx_neg, List.length_cons, List.length_map]
    exact Nat.succ_le_succ (toDigits_len_pow (by decide) (by decide) (show k + 1 < 10 ^ 60 from h))
theorem digit_asc {m : Nat} : ∀ c ∈ (Nat.toDigits 10 m).map Char.toNat, c < 128 := fun c hc => by
  obtain ⟨d, hd, rfl⟩ := List.mem_map.mp hc
  have r := PyProof.Rows.digit_range (Nat.isDigit_of_mem_toDigits (by decide) (by decide) hd)
  omega
theorem tx_asc (n : Int) : Asc (tx n) := fun c hc => by
  cases n with
  | ofNat m =>
    rw [show Int.ofNat m = (m : Int) from rfl, tx_nat] at hc
    exact digit_asc c hc
  | negSucc k =>
    rw [tx_neg] at hc
    rcases List.mem_cons.mp hc with rfl | hc
    · decide
    · exact digit_asc c hc
theorem foldl_lt : ∀ (cs : List Nat) (a : Nat), NumText.AllDigits cs → cs.foldl (fun acc c => acc * 10 + (c - 48)) a < (a + 1) * 10 ^ cs.length
  | [], a, _ => by simp
  | c :: cs, a, h => by
    have ih := foldl_lt cs (a * 10 + (c - 48)) fun d hd => h d (by simp [hd])
    have hc := h c (by simp)
    simp only [List.foldl_cons, List.length_cons, Nat.pow_succ]
    refine Nat.lt_of_lt_of_le ih ?_
    rw [Nat.mul_comm (10 ^ cs.length) 10, ← Nat.mul_assoc]
    exact Nat.mul_le_mul_right _ (by omega)
theorem word_small {x : Str} (h : numW (sg x)) : Small (valOf x) := by
  obtain ⟨h1, h2, h3, h4⟩ := h
  unfold figs at *
  have p40 : ∀ cs : List Nat, NumText.AllDigits cs → cs.length ≤ 40 → NumText.digitsVal cs < 10 ^ 60 := fun cs hd hl => by
    have := foldl_lt cs 0 hd
    rw [Nat.zero_add, Nat.one_mul] at this
    exact Nat.lt_of_lt_of_le this (Nat.pow_le_pow_right (by decide) (by omega))
  unfold Small valOf
  split at h1
  · rename_i hm
    rw [if_pos hm] at h2 h3 h4
    obtain ⟨cs, hx⟩ : ∃ cs, sg x = 45 :: cs := by
      cases e : sg x with
      | nil => rw [e] at hm; cases hm
      | cons a r => rw [e] at hm; simp at hm; exact ⟨r, by rw [hm]⟩
    rw [hx] at h1 h2 h3
    simp only [List.tail_cons] at h1 h2 h3
    rw [intText_neg hx h3 (fun z => by rw [z] at h1; simp at h1) (by rw [← sg_len, hx]; simp; omega)]
    have := p40 cs h3 h2
    simpa using this
  · rename_i hm
    rw [if_neg hm] at h2 h3 h4
    rw [intText_digits h3 (fun z => by rw [show sg x = [] from z] at h1; simp at h1) (by rw [← sg_len]; omega)]
    have := p40 _ h3 h2
    simpa using this
theorem nums_small {name row : Str} {least : Nat} {ns : List Int} (h : nums? name least row = some ns) : ∀ n ∈ ns, Small n := by
  unfold nums? at h
  split at h
  · cases h
  · split at h
    · rename_i hc
      cases h
      intro n hn
      obtain ⟨p, hp, rfl⟩ := List.mem_map.mp hn
      exact word_small (hc.2.2 p hp)
    · cases h
theorem words_len {ns : List Int} (h : ∀ n ∈ ns, Small n) : ((ns.map tx).map (·.length)).sum ≤ ns.length * 61 := by
  induction ns with
  | nil => simp
  | cons n ns ih =>
    have h1 := small_len (h n (by simp))
    have h2 := ih fun m hm => h m (by simp [hm])
    simp only [List.map_cons, List.sum_cons, List.length_cons, Nat.succ_mul]
    omega
/-! a text that has a blank falls into two words or more -/
theorem parts_len (x : Str) (v : Nat) : ∀ (cuts : List Nat) (a : Nat), (StrLaws.partsFrom x v a cuts).length = cuts.length + 1
  | [], _ => rfl
  | c :: r, a => by
    show (StrLaws.partsFrom x v (c + v) r).length + 1 = _
    rw [parts_len x v r]
    simp
theorem split_two {x : Str} {c : Nat} (hc : c < 256) (h : c ∈ sg x) : 2 ≤ (Txt.split x ⟨#[c]⟩).length := by
  have hx : 1 ≤ x.length := by
    rw [← sg_len]
    exact List.length_pos_of_mem h
  have hk : Builtin.Str.strKind ⟨#[c]⟩ = 1 := by
    unfold Builtin.Str.strKind
    rw [if_pos]
    rw [← Array.all_toList]
    simp [hc]
  have hk2 : ¬ Builtin.Str.strKind x < Builtin.Str.strKind ⟨#[c]⟩ := by
    rw [hk]
    unfold Builtin.Str.strKind
    split
    · omega
    · split <;> omega
  obtain ⟨i, hi⟩ := List.mem_iff_getElem?.mp h
  unfold Txt.split
  have hb : (decide (x.length < (⟨#[c]⟩ : Str).length) || decide (Builtin.Str.strKind x < Builtin.Str.strKind ⟨#[c]⟩)) = false := by
    rw [Bool.or_eq_false_iff]
    exact ⟨decide_eq_false (by show ¬ x.length < 1; omega), decide_eq_false hk2⟩
  rw [hb, if_neg Bool.false_ne_true]
  rcases StrLaws.occ_head x ⟨#[c]⟩ (x.length + 1) (by omega) with ⟨_, z⟩ | ⟨j, r, z, _⟩
  · exact absurd ((StrLaws.subAt_one x c i).mpr hi) (z i)
  · rw [z, if_neg (by simp), StrLaws.partsBetween_eq, parts_len]
    simp
/-! repeated -/
theorem mul_mem {x : Str} {n : Int} {c : Nat} (h : c ∈ sg (Txt.mul x n)) : c ∈ sg x := by
  unfold Txt.mul at h
  split at h
  · cases h
  · split at h
    · exact h
    · have key : ∀ (m : Nat) (acc : Array Nat), c ∈ ((List.replicate m x.cps).foldl (· ++ ·) acc).toList → c ∈ acc.toList ∨ c ∈ sg x := by
        intro m
        induction m with
        | zero => intro acc h; exact .inl h
        | succ m ih =>
          intro acc h
          rw [List.replicate_succ, List.foldl_cons] at h
          rcases ih _ h with z | z
          · rw [Array.toList_append] at z
            rcases List.mem_append.mp z with z | z
            · exact .inl z
            · exact .inr z
          · exact .inr z
      rcases key _ _ h with z | z
      · cases z
      · exact z
theorem mul_len {x : Str} {n : Int} : (Txt.mul x n).length ≤ x.length * n.toNat + x.length := by
  unfold Txt.mul
  split
  · exact Nat.zero_le _
  · split
    · omega
    · have key : ∀ (m : Nat) (acc : Array Nat), ((List.replicate m x.cps).foldl (· ++ ·) acc).size = acc.size + m * x.length := by
        intro m
        induction m with
        | zero => intro acc; simp
        | succ m ih =>
          intro acc
          rw [List.replicate_succ, List.foldl_cons, ih, Array.size_append, Nat.succ_mul]
          show acc.size + x.length + _ = _
          omega
      show ((List.replicate n.toNat x.cps).foldl (· ++ ·) #[]).size ≤ _
      rw [key, Nat.mul_comm]
      simp
theorem keeps_near {B : Int} : ∀ {ps ws : List Int} {a : Int}, keeps ps a ws → ws.length = ps.length → (∀ p ∈ ps, p ≤ B) → 0 ≤ B → ∀ w ∈ ws, w - a ≤ ps.length * B ∧ a - w ≤ ps.length * B
  | [], [], _, _, _, _, _, w, h => by cases h
  | [], _ :: _, _, _, h, _, _, _, _ => by simp at h
  | _ :: _, [], _, _, h, _, _, _, _ => by simp at h
  | p :: ps, x :: ws, a, hk, hl, hp, hB, w, hw => by
    have h1 := hk.1
    have h2 := hp p (by simp)
    have e : ((p :: ps).length : Int) * B = ps.length * B + B := by
      rw [List.length_cons, Int.natCast_succ, Int.add_mul, Int.one_mul]
    have h3 : 0 ≤ (ps.length : Int) * B := Int.mul_nonneg (by omega) hB
    rw [e]
    rcases List.mem_cons.mp hw with rfl | hw
    · omega
    · have := keeps_near hk.2 (by simpa using hl) (fun q hq => hp q (by simp [hq])) hB w hw
      omega
theorem small_of {x : Int} (h1 : -10000000000000000000000000000000000000000 ≤ x) (h2 : x ≤ 10000000000000000000000000000000000000000) {g : Int} (hg1 : 1 ≤ g) (hg2 : g ≤ 10000000000000000) : Small (x * g) := by
  unfold Small
  rw [Int.natAbs_mul]
  have a1 : x.natAbs ≤ 10 ^ 40 := by omega
  have a2 : g.natAbs ≤ 10 ^ 16 := by omega
  exact Nat.lt_of_le_of_lt (Nat.mul_le_mul a1 a2) (by decide)
theorem words_join_len {ns : List Int} (h : ∀ n ∈ ns, Small n) (hl : ns.length ≤ 13) : (Str.join ⟨#[32]⟩ (ns.map tx)).length ≤ 1000 := by
  have hw := words_len h
  cases ns with
  | nil => exact Nat.zero_le _
  | cons a r =>
    have := join_len ⟨#[32]⟩ (ss := (a :: r).map tx) (by simp)
    rw [show (⟨#[32]⟩ : Str).length = 1 from rfl, Nat.mul_one, List.length_map] at this
    omega
theorem words_join_asc (ns : List Int) : Asc (Str.join ⟨#[32]⟩ (ns.map tx)) := join_asc (by decide +kernel) fun p hp => by
  obtain ⟨n, _, rfl⟩ := List.mem_map.mp hp
  exact tx_asc n
theorem tx_one {d : Int} (h1 : 1 ≤ d) (h2 : d ≤ 9) : (tx d).length = 1 := by
  rcases (show d = 1 ∨ d = 2 ∨ d = 3 ∨ d = 4 ∨ d = 5 ∨ d = 6 ∨ d = 7 ∨ d = 8 ∨ d = 9 by omega) with rfl | rfl | rfl | rfl | rfl | rfl | rfl | rfl | rfl <;> decide +kernel
theorem meant_small {text : Str} {ps ws : List Int} {h : Int} (e : meant? text = some (ps, h, ws)) : Small h ∧ (∀ n ∈ ps, Small n) ∧ ∀ n ∈ ws, Small n := by
  unfold meant? at e
  split at e
  · unfold two? at e
    split at e
    · rename_i qs k us h0 h1
      cases e
      have a1 := nums_small h0
      have a2 := nums_small h1
      exact ⟨a2 _ (by simp), a1, fun n hn => a2 n (by simp [hn])⟩
    · cases e
  · cases e
end L2

set_option Elab.async false
set_option linter.all false
set_option maxRecDepth 100000
set_option maxHeartbeats 4000000
namespace My
open PySem L2 M
local macro_rules | `(tactic| walk_at "s1") => `(tactic| first
  | with_reducible refine i_var rfl ?_
  | with_reducible refine i_I0 ?_
  | with_reducible refine iteF ?_
  | with_reducible refine iteNT ?_
  | with_reducible refine iteNF ?_
  | with_reducible refine iteT ?_
  | with_reducible refine i_truB ?_
  | with_reducible refine i_addI ?_
  | with_reducible refine i_U ?_
  | with_reducible refine i_isB ?_
  | with_reducible refine i_isNotB ?_
  | with_reducible refine i_eqI ?_
  | with_reducible refine i_neI ?_
  | with_reducible refine i_intB ?_
  | with_reducible refine i_abs ?_
  | with_reducible refine i_isiII ?_
  | with_reducible refine i_isiIB ?_
  | with_reducible refine i_isiIL ?_
  | with_reducible refine i_isiID ?_
  | with_reducible refine i_isiIT ?_
  | with_reducible refine i_isiBB ?_
  | with_reducible refine i_div (by omega) (by omega) ?_
  | with_reducible refine i_mod (by omega) ?_
  | with_reducible refine And.intro (szl (Nat.le_of_ble_eq_true rfl)) ?_
  | with_reducible refine ⟨_, rfl, ?_⟩)
local macro_rules | `(tactic| walk_at "un") => `(tactic| try dsimp only [tSeq, tAsg, gName, tOp, tUn, tTest, tB, tAnd, tOr, tNot, tAndV, tOrV, tNotV, tIf, tIfS, tRet, tRetN, tDrop, tNext, tCons, tNil, tCB, tCall, tMenu, tComp, tComp2, msk, List.zipWith, iZip2, iStr, iEnum, tNoIf, tTru, tJoin, cxOf_K, tLst, tTup, tSl, tPart, tNoPart, tBM, tBM0, tChain, tC, tFor_eq, gTup, gStar, gLst, gCons, gNil, gSub, iList, iRng1, iRng2, iRng3, iTup, tWhile, tRev, tRaise, tCallS, tTry, tAug, tPar, tNever, ipI, List.append_nil])
local macro_rules | `(tactic| walk_at "st") => `(tactic| (walk_at "un"; repeat walk_at "s1"))

abbrev BdOk (a b : String) (st : Stmt) (ps : List Str) : Prop := ∀ (kV doc pm : Value) (an : Option Addr) (cdv ct : Value) (us : List Value) (hl : us.length = ps.length), bindArgs (PySem.W.fnOf a b (defArgs st) (defBody st) (defScope st) .none kV doc pm an cdv ct) ⟨us, []⟩ = pure (ps.zip us)
theorem len1 {us : List Value} (h : us.length = 1) : ∃ a0 : Value, us = [a0] := by
  rcases us with _ | ⟨a0, us⟩ <;> simp at h
  subst h
  exact ⟨a0, rfl⟩
theorem len2 {us : List Value} (h : us.length = 2) : ∃ a0 a1 : Value, us = [a0, a1] := by
  rcases us with _ | ⟨a0, us⟩ <;> simp at h
  rcases us with _ | ⟨a1, us⟩ <;> simp at h
  subst h
  exact ⟨a0, a1, rfl⟩
theorem len3 {us : List Value} (h : us.length = 3) : ∃ a0 a1 a2 : Value, us = [a0, a1, a2] := by
  rcases us with _ | ⟨a0, us⟩ <;> simp at h
  rcases us with _ | ⟨a1, us⟩ <;> simp at h
  rcases us with _ | ⟨a2, us⟩ <;> simp at h
  subst h
  exact ⟨a0, a1, a2, rfl⟩
def top (i : Nat) : Stmt := PySem.Challenge.pw_lugtrain_k31_texts_read_and_shown.main.body.getD i (.Pass ⟨0, 0, 0, 0⟩)
abbrev s_is_train : Stmt := top 16
theorem sc_is_train : FnScope ["plays"] ["plays"] (defScope s_is_train) := ⟨rfl, rfl, rfl, by decide +kernel, rfl, by decide +kernel, by decide +kernel⟩
theorem bd_is_train : BdOk "is_train" "is_train" s_is_train ["plays"] := fun _ _ _ _ _ _ us hl => by obtain ⟨a0, rfl⟩ := len1 hl; rfl
abbrev s_refuse_no_train : Stmt := top 17
theorem sc_refuse_no_train : FnScope ["plays"] ["plays"] (defScope s_refuse_no_train) := ⟨rfl, rfl, rfl, by decide +kernel, rfl, by decide +kernel, by decide +kernel⟩
theorem bd_refuse_no_train : BdOk "refuse_no_train" "refuse_no_train" s_refuse_no_train ["plays"] := fun _ _ _ _ _ _ us hl => by obtain ⟨a0, rfl⟩ := len1 hl; rfl
abbrev s_keeps_plays : Stmt := top 18
theorem sc_keeps_plays : FnScope ["plays", "handle", "wheels", "ahead", "play", "at"] ["plays", "handle", "wheels"] (defScope s_keeps_plays) := ⟨rfl, rfl, rfl, by decide +kernel, rfl, by decide +kernel, by decide +kernel⟩
theorem bd_keeps_plays : BdOk "keeps_plays" "keeps_plays" s_keeps_plays ["plays", "handle", "wheels"] := fun _ _ _ _ _ _ us hl => by obtain ⟨a0, a1, a2, rfl⟩ := len3 hl; rfl
abbrev s_is_stand : Stmt := top 19
theorem sc_is_stand : FnScope ["plays", "handle", "wheels"] ["plays", "handle", "wheels"] (defScope s_is_stand) := ⟨rfl, rfl, rfl, by decide +kernel, rfl, by decide +kernel, by decide +kernel⟩
theorem bd_is_stand : BdOk "is_stand" "is_stand" s_is_stand ["plays", "handle", "wheels"] := fun _ _ _ _ _ _ us hl => by obtain ⟨a0, a1, a2, rfl⟩ := len3 hl; rfl
abbrev s_refuse_no_stand : Stmt := top 20
theorem sc_refuse_no_stand : FnScope ["plays", "handle", "wheels"] ["plays", "handle", "wheels"] (defScope s_refuse_no_stand) := ⟨rfl, rfl, rfl, by decide +kernel, rfl, by decide +kernel, by decide +kernel⟩
theorem bd_refuse_no_stand : BdOk "refuse_no_stand" "refuse_no_stand" s_refuse_no_stand ["plays", "handle", "wheels"] := fun _ _ _ _ _ _ us hl => by obtain ⟨a0, a1, a2, rfl⟩ := len3 hl; rfl
abbrev s_is_number : Stmt := top 24
theorem sc_is_number : FnScope ["word", "figures"] ["word"] (defScope s_is_number) := ⟨rfl, rfl, rfl, by decide +kernel, rfl, by decide +kernel, by decide +kernel⟩
theorem bd_is_number : BdOk "is_number" "is_number" s_is_number ["word"] := fun _ _ _ _ _ _ us hl => by obtain ⟨a0, rfl⟩ := len1 hl; rfl
abbrev s_are_numbers : Stmt := top 25
theorem sc_are_numbers : FnScope ["words"] ["words"] (defScope s_are_numbers) := ⟨rfl, rfl, rfl, by decide +kernel, rfl, by decide +kernel, by decide +kernel⟩
theorem bd_are_numbers : BdOk "are_numbers" "are_numbers" s_are_numbers ["words"] := fun _ _ _ _ _ _ us hl => by obtain ⟨a0, rfl⟩ := len1 hl; rfl
abbrev s_numbers_of : Stmt := top 26
theorem sc_numbers_of : FnScope ["words"] ["words"] (defScope s_numbers_of) := ⟨rfl, rfl, rfl, by decide +kernel, rfl, by decide +kernel, by decide +kernel⟩
theorem bd_numbers_of : BdOk "numbers_of" "numbers_of" s_numbers_of ["words"] := fun _ _ _ _ _ _ us hl => by obtain ⟨a0, rfl⟩ := len1 hl; rfl
abbrev s_written : Stmt := top 27
theorem sc_written : FnScope ["numbers"] ["numbers"] (defScope s_written) := ⟨rfl, rfl, rfl, by decide +kernel, rfl, by decide +kernel, by decide +kernel⟩
theorem bd_written : BdOk "written" "written" s_written ["numbers"] := fun _ _ _ _ _ _ us hl => by obtain ⟨a0, rfl⟩ := len1 hl; rfl
abbrev s_numbers_behind : Stmt := top 28
theorem sc_numbers_behind : FnScope ["name", "least", "row", "word", "rest"] ["name", "least", "row"] (defScope s_numbers_behind) := ⟨rfl, rfl, rfl, by decide +kernel, rfl, by decide +kernel, by decide +kernel⟩
theorem bd_numbers_behind : BdOk "numbers_behind" "numbers_behind" s_numbers_behind ["name", "least", "row"] := fun _ _ _ _ _ _ us hl => by obtain ⟨a0, a1, a2, rfl⟩ := len3 hl; rfl
abbrev s_read : Stmt := top 29
theorem sc_read : FnScope ["text", "rows", "plays", "handle", "wheels"] ["text"] (defScope s_read) := ⟨rfl, rfl, rfl, by decide +kernel, rfl, by decide +kernel, by decide +kernel⟩
theorem bd_read : BdOk "read" "read" s_read ["text"] := fun _ _ _ _ _ _ us hl => by obtain ⟨a0, rfl⟩ := len1 hl; rfl
abbrev s_shown : Stmt := top 30
theorem sc_shown : FnScope ["plays", "handle", "wheels"] ["plays", "handle", "wheels"] (defScope s_shown) := ⟨rfl, rfl, rfl, by decide +kernel, rfl, by decide +kernel, by decide +kernel⟩
theorem bd_shown : BdOk "shown" "shown" s_shown ["plays", "handle", "wheels"] := fun _ _ _ _ _ _ us hl => by obtain ⟨a0, a1, a2, rfl⟩ := len3 hl; rfl
abbrev s_law_cell_at : Stmt := top 32
theorem sc_law_cell_at : FnScope ["script", "k"] ["script", "k"] (defScope s_law_cell_at) := ⟨rfl, rfl, rfl, by decide +kernel, rfl, by decide +kernel, by decide +kernel⟩
theorem bd_law_cell_at : BdOk "_law_cell_at" "_law_cell_at" s_law_cell_at ["script", "k"] := fun _ _ _ _ _ _ us hl => by obtain ⟨a0, a1, rfl⟩ := len2 hl; rfl
abbrev s_law_draws : Stmt := top 33
theorem sc_law_draws : FnScope ["cell", "many", "base", "found", "rest", "stirred", "k"] ["cell", "many", "base"] (defScope s_law_draws) := ⟨rfl, rfl, rfl, by decide +kernel, rfl, by decide +kernel, by decide +kernel⟩
theorem bd_law_draws : BdOk "_law_draws" "_law_draws" s_law_draws ["cell", "many", "base"] := fun _ _ _ _ _ _ us hl => by obtain ⟨a0, a1, a2, rfl⟩ := len3 hl; rfl
abbrev s_law_whole : Stmt := top 34
theorem sc_law_whole : FnScope ["found"] ["found"] (defScope s_law_whole) := ⟨rfl, rfl, rfl, by decide +kernel, rfl, by decide +kernel, by decide +kernel⟩
theorem bd_law_whole : BdOk "_law_whole" "_law_whole" s_law_whole ["found"] := fun _ _ _ _ _ _ us hl => by obtain ⟨a0, rfl⟩ := len1 hl; rfl
abbrev s_law_a_places : Stmt := top 35
theorem sc_law_a_places : FnScope ["found", "many"] ["found", "many"] (defScope s_law_a_places) := ⟨rfl, rfl, rfl, by decide +kernel, rfl, by decide +kernel, by decide +kernel⟩
theorem bd_law_a_places : BdOk "_law_a_places" "_law_a_places" s_law_a_places ["found", "many"] := fun _ _ _ _ _ _ us hl => by obtain ⟨a0, a1, rfl⟩ := len2 hl; rfl
abbrev s_law_train : Stmt := top 36
theorem sc_law_train : FnScope ["script", "heads", "many", "far", "picks", "plays", "wheels", "handle", "ahead", "k", "play", "side"] ["script"] (defScope s_law_train) := ⟨rfl, rfl, rfl, by decide +kernel, rfl, by decide +kernel, by decide +kernel⟩
theorem bd_law_train : BdOk "_law_train" "_law_train" s_law_train ["script"] := fun _ _ _ _ _ _ us hl => by obtain ⟨a0, rfl⟩ := len1 hl; rfl
abbrev s_law_a_number : Stmt := top 37
theorem sc_law_a_number : FnScope ["word", "figures", "sign"] ["word"] (defScope s_law_a_number) := ⟨rfl, rfl, rfl, by decide +kernel, rfl, by decide +kernel, by decide +kernel⟩
theorem bd_law_a_number : BdOk "_law_a_number" "_law_a_number" s_law_a_number ["word"] := fun _ _ _ _ _ _ us hl => by obtain ⟨a0, rfl⟩ := len1 hl; rfl
abbrev s_law_a_words : Stmt := top 38
theorem sc_law_a_words : FnScope ["numbers"] ["numbers"] (defScope s_law_a_words) := ⟨rfl, rfl, rfl, by decide +kernel, rfl, by decide +kernel, by decide +kernel⟩
theorem bd_law_a_words : BdOk "_law_a_words" "_law_a_words" s_law_a_words ["numbers"] := fun _ _ _ _ _ _ us hl => by obtain ⟨a0, rfl⟩ := len1 hl; rfl
abbrev s_law_a_numbers : Stmt := top 39
theorem sc_law_a_numbers : FnScope ["row", "head", "many", "words", "found"] ["row", "head", "many"] (defScope s_law_a_numbers) := ⟨rfl, rfl, rfl, by decide +kernel, rfl, by decide +kernel, by decide +kernel⟩
theorem bd_law_a_numbers : BdOk "_law_a_numbers" "_law_a_numbers" s_law_a_numbers ["row", "head", "many"] := fun _ _ _ _ _ _ us hl => by obtain ⟨a0, a1, a2, rfl⟩ := len3 hl; rfl
abbrev s_law_keeps : Stmt := top 40
theorem sc_law_keeps : FnScope ["plays", "handle", "wheels", "ahead", "play", "at"] ["plays", "handle", "wheels"] (defScope s_law_keeps) := ⟨rfl, rfl, rfl, by decide +kernel, rfl, by decide +kernel, by decide +kernel⟩
theorem bd_law_keeps : BdOk "_law_keeps" "_law_keeps" s_law_keeps ["plays", "handle", "wheels"] := fun _ _ _ _ _ _ us hl => by obtain ⟨a0, a1, a2, rfl⟩ := len3 hl; rfl
abbrev s_law_a_fault : Stmt := top 41
theorem sc_law_a_fault : FnScope ["plays", "handle", "wheels"] ["plays", "handle", "wheels"] (defScope s_law_a_fault) := ⟨rfl, rfl, rfl, by decide +kernel, rfl, by decide +kernel, by decide +kernel⟩
theorem bd_law_a_fault : BdOk "_law_a_fault" "_law_a_fault" s_law_a_fault ["plays", "handle", "wheels"] := fun _ _ _ _ _ _ us hl => by obtain ⟨a0, a1, a2, rfl⟩ := len3 hl; rfl
abbrev s_law_spoilt : Stmt := top 42
theorem sc_law_spoilt : FnScope ["text", "picks", "some", "few", "sign", "at", "marks", "words", "k"] ["text", "picks"] (defScope s_law_spoilt) := ⟨rfl, rfl, rfl, by decide +kernel, rfl, by decide +kernel, by decide +kernel⟩
theorem bd_law_spoilt : BdOk "_law_spoilt" "_law_spoilt" s_law_spoilt ["text", "picks"] := fun _ _ _ _ _ _ us hl => by obtain ⟨a0, a1, rfl⟩ := len2 hl; rfl
abbrev s_law_a_kin : Stmt := top 43
theorem sc_law_a_kin : FnScope ["e", "kin"] ["e"] (defScope s_law_a_kin) := ⟨rfl, rfl, rfl, by decide +kernel, rfl, by decide +kernel, by decide +kernel⟩
theorem bd_law_a_kin : BdOk "_law_a_kin" "_law_a_kin" s_law_a_kin ["e"] := fun _ _ _ _ _ _ us hl => by obtain ⟨a0, rfl⟩ := len1 hl; rfl
abbrev s_law_due_kin : Stmt := top 44
theorem sc_law_due_kin : FnScope ["name", "names"] ["name"] (defScope s_law_due_kin) := ⟨rfl, rfl, rfl, by decide +kernel, rfl, by decide +kernel, by decide +kernel⟩
theorem bd_law_due_kin : BdOk "_law_due_kin" "_law_due_kin" s_law_due_kin ["name"] := fun _ _ _ _ _ _ us hl => by obtain ⟨a0, rfl⟩ := len1 hl; rfl
abbrev s_law_a_meant : Stmt := top 45
theorem sc_law_a_meant : FnScope ["text", "rows", "plays", "places"] ["text"] (defScope s_law_a_meant) := ⟨rfl, rfl, rfl, by decide +kernel, rfl, by decide +kernel, by decide +kernel⟩
theorem bd_law_a_meant : BdOk "_law_a_meant" "_law_a_meant" s_law_a_meant ["text"] := fun _ _ _ _ _ _ us hl => by obtain ⟨a0, rfl⟩ := len1 hl; rfl
abbrev s_law_a_told : Stmt := top 46
theorem sc_law_a_told : FnScope ["text", "found", "kin", "e"] ["text"] (defScope s_law_a_told) := ⟨rfl, rfl, rfl, by decide +kernel, rfl, by decide +kernel, by decide +kernel⟩
theorem bd_law_a_told : BdOk "_law_a_told" "_law_a_told" s_law_a_told ["text"] := fun _ _ _ _ _ _ us hl => by obtain ⟨a0, rfl⟩ := len1 hl; rfl
abbrev s_law_shown : Stmt := top 47
theorem sc_law_shown : FnScope ["plays", "handle", "wheels", "found", "kin", "e"] ["plays", "handle", "wheels"] (defScope s_law_shown) := ⟨rfl, rfl, rfl, by decide +kernel, rfl, by decide +kernel, by decide +kernel⟩
theorem bd_law_shown : BdOk "_law_shown" "_law_shown" s_law_shown ["plays", "handle", "wheels"] := fun _ _ _ _ _ _ us hl => by obtain ⟨a0, a1, a2, rfl⟩ := len3 hl; rfl
abbrev s_law_is_read : Stmt := top 48
theorem sc_law_is_read : FnScope ["found", "due"] ["found", "due"] (defScope s_law_is_read) := ⟨rfl, rfl, rfl, by decide +kernel, rfl, by decide +kernel, by decide +kernel⟩
theorem bd_law_is_read : BdOk "_law_is_read" "_law_is_read" s_law_is_read ["found", "due"] := fun _ _ _ _ _ _ us hl => by obtain ⟨a0, a1, rfl⟩ := len2 hl; rfl
abbrev s_law : Stmt := top 49
theorem sc_law : FnScope ["script", "plays", "handle", "wheels", "great", "first", "cell", "picks", "text", "words", "figures", "k", "meant", "fault", "found", "kin", "handed", "told"] ["script"] (defScope s_law) := ⟨rfl, rfl, rfl, by decide +kernel, rfl, by decide +kernel, by decide +kernel⟩
structure Txt (mg : Str → Option Value) : Prop where
  z_ValueError : mg "ValueError" = none
  z_abs : mg "abs" = none
  z_all : mg "all" = none
  z_bool : mg "bool" = none
  z_int : mg "int" = none
  z_isinstance : mg "isinstance" = none
  z_len : mg "len" = none
  z_list : mg "list" = none
  z_min : mg "min" = none
  z_range : mg "range" = none
  z_str : mg "str" = none
  z_tuple : mg "tuple" = none
  z_zip : mg "zip" = none
  g_FIGURES : ∃ t, mg "FIGURES" = some (.str "0123456789" t)
  g_MOST_FIGURES : ∃ t, mg "MOST_FIGURES" = some (.int 40 t)
  g_MOST_PLAYS : ∃ t, mg "MOST_PLAYS" = some (.int 12 t)
structure Cls (K : PySem.W.Frag) (mg : Str → Option Value) where
  c_TrainError : Addr
  c_NoTrain : Addr
  c_NoStand : Addr
  c_NoPaper : Addr
  c_NoBox : Addr
  c_NoSwitch : Addr
  c_NoPlace : Addr
  c_NoTable : Addr
  c_NoText : Addr
  c_NoRow : Addr
  c_NoPiece : Addr
  c_NothingLeft : Addr
  c_TooMany : Addr
  m_TrainError : mg "TrainError" = some (.ref c_TrainError)
  m_NoTrain : mg "NoTrain" = some (.ref c_NoTrain)
  m_NoStand : mg "NoStand" = some (.ref c_NoStand)
  m_NoPaper : mg "NoPaper" = some (.ref c_NoPaper)
  m_NoBox : mg "NoBox" = some (.ref c_NoBox)
  m_NoSwitch : mg "NoSwitch" = some (.ref c_NoSwitch)
  m_NoPlace : mg "NoPlace" = some (.ref c_NoPlace)
  m_NoTable : mg "NoTable" = some (.ref c_NoTable)
  m_NoText : mg "NoText" = some (.ref c_NoText)
  m_NoRow : mg "NoRow" = some (.ref c_NoRow)
  m_NoPiece : mg "NoPiece" = some (.ref c_NoPiece)
  m_NothingLeft : mg "NothingLeft" = some (.ref c_NothingLeft)
  m_TooMany : mg "TooMany" = some (.ref c_TooMany)
  x_NoTrain : PySem.W.excIn K c_NoTrain [.type "ValueError", .type "Exception", .type "BaseException", .type "object"] "ValueError.__new__" = true
  e_NoTrain : PySem.W.exmOne K (.ref c_NoTrain) (.ref c_TrainError) = some true
  i_NoTrain_ga : PySem.W.findIn K (.ref c_NoTrain) "__getattribute__" = some (some (.builtin "BaseException.__getattribute__"))
  i_NoTrain_gt : PySem.W.findIn K (.ref c_NoTrain) "__getattr__" = some none
  i_NoTrain_mb : PySem.W.mroIn K c_NoTrain (.type "BaseException") = some true
  i_NoTrain_hd : PySem.W.hasDictIn K c_NoTrain = true
  i_NoTrain_ca : PySem.W.findIn K (.ref c_NoTrain) "__class__" = some (some (.builtin "object.__class__"))
  i_NoTrain_sp : PySem.W.specialIn K (.builtin "object.__class__") "__get__" = some (some (.builtin "getset_descriptor.__get__"))
  i_NoTrain_tk : PySem.W.takesIn K (.builtin "object.__class__") = some true
  i_NoTrain_mr : PySem.W.mroIn K c_NoTrain (.type "object") = some true
  k_NoTrain_NoTrain : PySem.W.kitOne K (.ref c_NoTrain) (.ref c_NoTrain) = some true
  k_NoTrain_NoStand : PySem.W.kitOne K (.ref c_NoTrain) (.ref c_NoStand) = some false
  k_NoTrain_NoPaper : PySem.W.kitOne K (.ref c_NoTrain) (.ref c_NoPaper) = some false
  k_NoTrain_NoBox : PySem.W.kitOne K (.ref c_NoTrain) (.ref c_NoBox) = some false
  k_NoTrain_NoSwitch : PySem.W.kitOne K (.ref c_NoTrain) (.ref c_NoSwitch) = some false
  k_NoTrain_NoPlace : PySem.W.kitOne K (.ref c_NoTrain) (.ref c_NoPlace) = some false
  k_NoTrain_NoTable : PySem.W.kitOne K (.ref c_NoTrain) (.ref c_NoTable) = some false
  k_NoTrain_NoText : PySem.W.kitOne K (.ref c_NoTrain) (.ref c_NoText) = some false
  k_NoTrain_NoRow : PySem.W.kitOne K (.ref c_NoTrain) (.ref c_NoRow) = some false
  k_NoTrain_NoPiece : PySem.W.kitOne K (.ref c_NoTrain) (.ref c_NoPiece) = some false
  k_NoTrain_NothingLeft : PySem.W.kitOne K (.ref c_NoTrain) (.ref c_NothingLeft) = some false
  k_NoTrain_TooMany : PySem.W.kitOne K (.ref c_NoTrain) (.ref c_TooMany) = some false
  k_NoTrain_ValueError : PySem.W.kitOne K (.ref c_NoTrain) (.type "ValueError") = some true
  x_NoStand : PySem.W.excIn K c_NoStand [.type "ValueError", .type "Exception", .type "BaseException", .type "object"] "ValueError.__new__" = true
  e_NoStand : PySem.W.exmOne K (.ref c_NoStand) (.ref c_TrainError) = some true
  i_NoStand_ga : PySem.W.findIn K (.ref c_NoStand) "__getattribute__" = some (some (.builtin "BaseException.__getattribute__"))
  i_NoStand_gt : PySem.W.findIn K (.ref c_NoStand) "__getattr__" = some none
  i_NoStand_mb : PySem.W.mroIn K c_NoStand (.type "BaseException") = some true
  i_NoStand_hd : PySem.W.hasDictIn K c_NoStand = true
  i_NoStand_ca : PySem.W.findIn K (.ref c_NoStand) "__class__" = some (some (.builtin "object.__class__"))
  i_NoStand_sp : PySem.W.specialIn K (.builtin "object.__class__") "__get__" = some (some (.builtin "getset_descriptor.__get__"))
  i_NoStand_tk : PySem.W.takesIn K (.builtin "object.__class__") = some true
  i_NoStand_mr : PySem.W.mroIn K c_NoStand (.type "object") = some true
  k_NoStand_NoTrain : PySem.W.kitOne K (.ref c_NoStand) (.ref c_NoTrain) = some false
  k_NoStand_NoStand : PySem.W.kitOne K (.ref c_NoStand) (.ref c_NoStand) = some true
  k_NoStand_NoPaper : PySem.W.kitOne K (.ref c_NoStand) (.ref c_NoPaper) = some false
  k_NoStand_NoBox : PySem.W.kitOne K (.ref c_NoStand) (.ref c_NoBox) = some false
  k_NoStand_NoSwitch : PySem.W.kitOne K (.ref c_NoStand) (.ref c_NoSwitch) = some false
  k_NoStand_NoPlace : PySem.W.kitOne K (.ref c_NoStand) (.ref c_NoPlace) = some false
  k_NoStand_NoTable : PySem.W.kitOne K (.ref c_NoStand) (.ref c_NoTable) = some false
  k_NoStand_NoText : PySem.W.kitOne K (.ref c_NoStand) (.ref c_NoText) = some false
  k_NoStand_NoRow : PySem.W.kitOne K (.ref c_NoStand) (.ref c_NoRow) = some false
  k_NoStand_NoPiece : PySem.W.kitOne K (.ref c_NoStand) (.ref c_NoPiece) = some false
  k_NoStand_NothingLeft : PySem.W.kitOne K (.ref c_NoStand) (.ref c_NothingLeft) = some false
  k_NoStand_TooMany : PySem.W.kitOne K (.ref c_NoStand) (.ref c_TooMany) = some false
  k_NoStand_ValueError : PySem.W.kitOne K (.ref c_NoStand) (.type "ValueError") = some true
  x_NoText : PySem.W.excIn K c_NoText [.type "ValueError", .type "Exception", .type "BaseException", .type "object"] "ValueError.__new__" = true
  e_NoText : PySem.W.exmOne K (.ref c_NoText) (.ref c_TrainError) = some true
  i_NoText_ga : PySem.W.findIn K (.ref c_NoText) "__getattribute__" = some (some (.builtin "BaseException.__getattribute__"))
  i_NoText_gt : PySem.W.findIn K (.ref c_NoText) "__getattr__" = some none
  i_NoText_mb : PySem.W.mroIn K c_NoText (.type "BaseException") = some true
  i_NoText_hd : PySem.W.hasDictIn K c_NoText = true
  i_NoText_ca : PySem.W.findIn K (.ref c_NoText) "__class__" = some (some (.builtin "object.__class__"))
  i_NoText_sp : PySem.W.specialIn K (.builtin "object.__class__") "__get__" = some (some (.builtin "getset_descriptor.__get__"))
  i_NoText_tk : PySem.W.takesIn K (.builtin "object.__class__") = some true
  i_NoText_mr : PySem.W.mroIn K c_NoText (.type "object") = some true
  k_NoText_NoTrain : PySem.W.kitOne K (.ref c_NoText) (.ref c_NoTrain) = some false
  k_NoText_NoStand : PySem.W.kitOne K (.ref c_NoText) (.ref c_NoStand) = some false
  k_NoText_NoPaper : PySem.W.kitOne K (.ref c_NoText) (.ref c_NoPaper) = some false
  k_NoText_NoBox : PySem.W.kitOne K (.ref c_NoText) (.ref c_NoBox) = some false
  k_NoText_NoSwitch : PySem.W.kitOne K (.ref c_NoText) (.ref c_NoSwitch) = some false
  k_NoText_NoPlace : PySem.W.kitOne K (.ref c_NoText) (.ref c_NoPlace) = some false
  k_NoText_NoTable : PySem.W.kitOne K (.ref c_NoText) (.ref c_NoTable) = some false
  k_NoText_NoText : PySem.W.kitOne K (.ref c_NoText) (.ref c_NoText) = some true
  k_NoText_NoRow : PySem.W.kitOne K (.ref c_NoText) (.ref c_NoRow) = some false
  k_NoText_NoPiece : PySem.W.kitOne K (.ref c_NoText) (.ref c_NoPiece) = some false
  k_NoText_NothingLeft : PySem.W.kitOne K (.ref c_NoText) (.ref c_NothingLeft) = some false
  k_NoText_TooMany : PySem.W.kitOne K (.ref c_NoText) (.ref c_TooMany) = some false
  k_NoText_ValueError : PySem.W.kitOne K (.ref c_NoText) (.type "ValueError") = some true
theorem Cls.exc_NoTrain {K : PySem.W.Frag} {mg : Str → Option Value} (Z : Cls K mg) : ExcCls K mg "NoTrain" Z.c_NoTrain [.type "ValueError", .type "Exception", .type "BaseException", .type "object"] "ValueError.__new__" := ⟨Z.m_NoTrain, Z.x_NoTrain⟩
theorem Cls.isi_NoTrain {K : PySem.W.Frag} {mg : Str → Option Value} (Z : Cls K mg) : IsiCls K Z.c_NoTrain := ⟨Z.i_NoTrain_ga, Z.i_NoTrain_gt, Z.i_NoTrain_mb, Z.i_NoTrain_hd, Z.i_NoTrain_ca, Z.i_NoTrain_sp, Z.i_NoTrain_tk, Z.i_NoTrain_mr⟩
theorem Cls.exc_NoStand {K : PySem.W.Frag} {mg : Str → Option Value} (Z : Cls K mg) : ExcCls K mg "NoStand" Z.c_NoStand [.type "ValueError", .type "Exception", .type "BaseException", .type "object"] "ValueError.__new__" := ⟨Z.m_NoStand, Z.x_NoStand⟩
theorem Cls.isi_NoStand {K : PySem.W.Frag} {mg : Str → Option Value} (Z : Cls K mg) : IsiCls K Z.c_NoStand := ⟨Z.i_NoStand_ga, Z.i_NoStand_gt, Z.i_NoStand_mb, Z.i_NoStand_hd, Z.i_NoStand_ca, Z.i_NoStand_sp, Z.i_NoStand_tk, Z.i_NoStand_mr⟩
theorem Cls.exc_NoText {K : PySem.W.Frag} {mg : Str → Option Value} (Z : Cls K mg) : ExcCls K mg "NoText" Z.c_NoText [.type "ValueError", .type "Exception", .type "BaseException", .type "object"] "ValueError.__new__" := ⟨Z.m_NoText, Z.x_NoText⟩
theorem Cls.isi_NoText {K : PySem.W.Frag} {mg : Str → Option Value} (Z : Cls K mg) : IsiCls K Z.c_NoText := ⟨Z.i_NoText_ga, Z.i_NoText_gt, Z.i_NoText_mb, Z.i_NoText_hd, Z.i_NoText_ca, Z.i_NoText_sp, Z.i_NoText_tk, Z.i_NoText_mr⟩
section
variable {P : Program} {w : World} {K : PySem.W.Frag} {mg : Str → Option Value} {base : Heap}
/-- a new list of ints has come -/
structure NewI (H H' : Hp) (l : Addr) (xs : List Int) : Prop where
  fr : H l = none
  sm : Same H H'
  at_ : H' l = some (.lst (iL xs))
theorem NewI.app {H H' : Hp} {l : Addr} {xs : List Int} {x : Int} (N : NewI H H' l xs) : NewI H (upd H' l (.lst (iL xs ++ [V.int x]))) l (xs ++ [x]) :=
  ⟨N.fr, fun b o e => by rw [upd_ne (ne_of_none e N.fr)]; exact N.sm b o e, by rw [upd_same]; simp [iL]⟩
def spLaw (K : PySem.W.Frag) : Sp := fun vs H Q _ => ∃ (a : Addr) (ns : List Int), vs = [.ref a] ∧ SqL K H a (ns.map V.int) ∧ ns.length ≤ 63 ∧ ∀ H', Q (.bl true) H'

--SPLIT
/-- what is raised: NoTrain where it is no train, else NoStand where no stand -/
def Exs (E : XK) (H : Hp) (CT CS : Addr) (tr st : Prop) : Prop := (¬ tr → ∀ H', Same H H' → E (.ref CT) none H') ∧ (tr → ¬ st → ∀ H', Same H H' → E (.ref CS) none H')
theorem Exs.on {E : XK} {H H1 : Hp} {CT CS : Addr} {tr st : Prop} (x : Exs E H CT CS tr st) (s : Same H H1) : Exs E H1 CT CS tr st := ⟨fun h H' s' => x.1 h H' (s.trans s'), fun h1 h2 H' s' => x.2 h1 h2 H' (s.trans s')⟩
def spCellAt (K : PySem.W.Frag) : Sp := fun vs H Q _ => ∃ (a : Addr) (ns : List Int) (k : Int), vs = [.ref a, .int k] ∧ SqL K H a (iL ns) ∧ 0 ≤ k ∧ ∀ v, Q (.int v) H
theorem ok_law_cell_at (T : Txt mg) (D : Def K mg "_law_cell_at" s_law_cell_at) : Callee P w K mg base "_law_cell_at" 1 (spCellAt K) := by
  refine D.ok sc_law_cell_at bd_law_cell_at (fun vs H Q E h => ?len) (fun f cdv A outer s H vs Q E hr h => ?body)
  case len => obtain ⟨a, ns, k, rfl, _⟩ := h; rfl
  case body =>
    obtain ⟨a, ns, kk, rfl, hS, h0, k⟩ := h
    have hu := hr.units
    refine ⟨_, (pss_cons (ps_if (pt_cmpR op_lt (pv 1) (pe_callB (call_lenK K) (by rfl) T.z_len bt_len (pa_cons (pv 0) pa_nil)) (nomark _))
 (pss_one (ps_ret (pe_ix (ix_K K) (pv 0) (pv 1) (by exact fun _ _ => rfl))))
 pss_nil)
 (pss_one (ps_ret pe_int))), ?_⟩
    dsimp only [tSeq, tAsg, gName, tOp, tUn, tTest, tB, tAnd, tOr, tNot, tAndV, tOrV, tNotV, tIf, tIfS, tRet, tRetN, tDrop, tNext, tCons, tNil, tCB, tCall, tMenu, tComp, tComp2, msk, List.zipWith, iZip2, iStr, iEnum, tNoIf, tTru, tJoin, cxOf_K, tLst, tTup, tSl, tPart, tNoPart, tBM, tBM0, tChain, tC, tFor_eq, gTup, gStar, gLst, gCons, gNil, gSub, iList, iRng1, iRng2, iRng3, iTup, tWhile, tRev, tRaise, tCallS, tTry, tAug, tPar, tNever, ipI, List.append_nil]
    try clear hu
    walk_at "st"
    refine i_lenI hS ?_
    walk_at "st"
    refine i_if (fun g => ?_) (fun g => ?_)
    · walk_at "st"
      exact i_ixL hS h0 g (fun v _ _ => k v)
    · walk_at "st"
      exact k 0

def spDraws : Sp := fun vs H Q _ => ∃ cell many bas : Int, vs = [.int cell, .int many, .int bas] ∧ 0 ≤ many ∧ many ≤ 5000 ∧ 0 < bas ∧ bas < 1073741824 ∧
  ∀ l H' xs, NewI H H' l xs → (xs.length : Int) = many → (∀ x ∈ xs, 0 ≤ x ∧ x < bas) → Q (.ref l) H'
theorem ok_law_draws (T : Txt mg) (D : Def K mg "_law_draws" s_law_draws) : Callee P w K mg base "_law_draws" 1 spDraws := by
  refine D.ok sc_law_draws bd_law_draws (fun vs H Q E h => ?len) (fun f cdv A outer s H vs Q E hr h => ?body)
  case len => obtain ⟨p, a, x, rfl, _⟩ := h; rfl
  case body =>
    obtain ⟨cell, many, bas, rfl, h1, h2, h3, h4, k⟩ := h
    refine ⟨_, (pss_cons (ps_set (i := 3) sc_law_draws.nd rfl (Or.inl rfl) (pe_lst pa_nil))
 (pss_cons (ps_set (i := 4) sc_law_draws.nd rfl (Or.inl rfl) (pe_op op_mulP (pv 0) (pe_callTy call_intK (by rfl) T.z_int bt_int (pa_cons (pe_cmpR op_ge (pv 0) (pe_powK (r := 1000000000000000000) (by decide)) (nomark _)) pa_nil))))
 (pss_cons (ps_set (i := 5) sc_law_draws.nd rfl (Or.inl rfl) (pe_op op_mod (pv 0) pe_int))
 (pss_cons (ps_for PassesOwn.never rfl (pi_range1 (by rfl) T.z_range (pa_cons (pe_op op_addP (pv 1) pe_int) pa_nil)) (pg_name (i := 6) sc_law_draws.nd rfl (Or.inl rfl))
 (pss_cons (ps_set (i := 5) sc_law_draws.nd rfl (Or.inl rfl) (pe_op op_mod (pe_op op_addP (pe_op op_addP (pe_op op_addP (pe_op op_mulP (pv 5) (pv 5)) (pe_op op_mulP pe_int (pv 5))) (pv 6)) pe_int) pe_int))
 (pss_one (ps_if (PW.pt (pw_and (pt_cmpR op_gt (pv 6) pe_int (nomark _)) (pw_and1 (pt_cmpR op_gt (pv 4) pe_int (nomark _)))))
 (pss_cons (ps_expr (pe_bmK K PySem.F.plainAttrs_list PySem.F.slot_list_append PySem.F.type_list_append mt_append (pv 3) (pa_cons (pe_op op_mod (pv 4) (pv 2)) pa_nil)))
 (pss_one (ps_set (i := 4) sc_law_draws.nd rfl (Or.inl rfl) (pe_op op_fdiv (pv 4) (pv 2)))))
 (pss_one (ps_if (pt_cmpR op_gt (pv 6) pe_int (nomark _))
 (pss_one (ps_expr (pe_bmK K PySem.F.plainAttrs_list PySem.F.slot_list_append PySem.F.type_list_append mt_append (pv 3) (pa_cons (pe_op op_mod (pe_op op_fdiv (pv 5) pe_int) (pv 2)) pa_nil))))
 pss_nil))))))
 (pss_one (ps_ret (pv 3))))))), ?_⟩
    dsimp only [tSeq, tAsg, gName, tOp, tUn, tTest, tB, tAnd, tOr, tNot, tAndV, tOrV, tNotV, tIf, tIfS, tRet, tRetN, tDrop, tNext, tCons, tNil, tCB, tCall, tMenu, tComp, tComp2, msk, List.zipWith, iZip2, iStr, iEnum, tNoIf, tTru, tJoin, cxOf_K, tLst, tTup, tSl, tPart, tNoPart, tBM, tBM0, tChain, tC, tFor_eq, gTup, gStar, gLst, gCons, gNil, gSub, iList, iRng1, iRng2, iRng3, iTup, tWhile, tRev, tRaise, tCallS, tTry, tAug, tPar, tNever, ipI, List.append_nil]
    try clear hu
    refine ⟨szl (by decide), fun l hl => ?_⟩
    walk_at "st"
    refine i_mulI (cmul_r ?_ ?_) ?_
    · split <;> decide
    · split <;> decide
    generalize cell * _ = rest
    walk_at "st"
    have hst0 : 0 ≤ cell % 2305843009213693951 := Int.emod_nonneg _ (by decide)
    have hst1 : cell % 2305843009213693951 < 2305843009213693951 := Int.emod_lt_of_pos _ (by decide)
    generalize cell % 2305843009213693951 = stirred at *
    refine ⟨by omega, by omega, lp_range (fun i σ H2 => ∃ (rest stirred : Int) (kk : Option V) (xs : List Int), σ = [some (.int cell), some (.int many), some (.int bas), some (.ref l), some (.int rest), some (.int stirred), kk] ∧
      0 ≤ stirred ∧ stirred < 2305843009213693951 ∧ NewI H H2 l xs ∧ xs.length = i - 3 ∧ ∀ x ∈ xs, 0 ≤ x ∧ x < bas) ?_ ?_ ?_⟩
    · exact ⟨rest, stirred, none, [], rfl, hst0, hst1, ⟨hl, same_upd hl, upd_same⟩, rfl, by simp⟩
    · rintro i σ H2 hi ⟨rest, stirred, kk, xs, rfl, s0, s1, N, hx, hb⟩
      walk_at "st"
      refine i_mulI (cmul_l (by omega) (by omega)) ?_
      walk_at "st"
      refine i_mulI (cmul_l (by decide) (by decide)) ?_
      walk_at "st"
      have hst0 := Int.emod_nonneg (stirred * stirred + 48271 * stirred + (0 + (i : Int)) + 1) (show (2305843009213693951 : Int) ≠ 0 by decide)
      have hst1 := Int.emod_lt_of_pos (stirred * stirred + 48271 * stirred + (0 + (i : Int)) + 1) (show (0 : Int) < 2305843009213693951 by decide)
      generalize (stirred * stirred + 48271 * stirred + (0 + (i : Int)) + 1) % 2305843009213693951 = stirred2 at *
      have app : ∀ v, 3 ≤ i → 0 ≤ v → v < bas → ∀ rest2, ∃ (rest stirred : Int) (kk : Option V) (ys : List Int), [some (V.int cell), some (.int many), some (.int bas), some (.ref l), some (.int rest2), some (.int stirred2), some (V.int (0 + (i : Int)))] = [some (.int cell), some (.int many), some (.int bas), some (.ref l), some (.int rest), some (.int stirred), kk] ∧
        0 ≤ stirred ∧ stirred < 2305843009213693951 ∧ NewI H (upd H2 l (.lst (iL xs ++ [V.int v]))) l ys ∧ ys.length = i + 1 - 3 ∧ ∀ x ∈ ys, 0 ≤ x ∧ x < bas := by
        intro v hi3 hv0 hv1 rest2
        refine ⟨rest2, stirred2, some (V.int (0 + (i : Int))), xs ++ [v], rfl, hst0, hst1, N.app, ?_, ?_⟩
        · simp; omega
        · intro x hxm
          rcases List.mem_append.mp hxm with z | z
          · exact hb x z
          · simp at z; subst z; exact ⟨hv0, hv1⟩
      have lenx : xs.length ≤ 100000 := by omega
      refine i_if (fun g1 => ?_) (fun g1 => ?_)
      · walk_at "st"
        refine i_if (fun g2 => ?_) (fun g2 => ?_)
        · walk_at "st"
          refine ⟨.inl ⟨rfl, _, SqL.of N.at_⟩, ?_⟩
          walk_at "st"
          refine i_app N.at_ (szlt (by simpa [iL] using lenx)) ?_
          walk_at "st"
          exact app _ (by omega) (Int.emod_nonneg _ (by omega)) (Int.emod_lt_of_pos _ h3) _
        · walk_at "st"
          refine i_if (fun g3 => ?_) (fun g3 => absurd g1 g3)
          walk_at "st"
          refine ⟨.inl ⟨rfl, _, SqL.of N.at_⟩, ?_⟩
          walk_at "st"
          refine i_app N.at_ (szlt (by simpa [iL] using lenx)) ?_
          exact app _ (by omega) (Int.emod_nonneg _ (by omega)) (Int.emod_lt_of_pos _ h3) _
      · walk_at "st"
        refine i_if (fun g3 => absurd g3 g1) (fun g3 => ?_)
        exact ⟨rest, stirred2, _, xs, rfl, hst0, hst1, N, by omega, hb⟩
    · rintro σ H2 ⟨rest, stirred, kk, xs, rfl, s0, s1, N, hx, hb⟩
      walk_at "st"
      exact k l H2 xs N (by omega) hb

def spWhole : Sp := fun vs H Q _ => ∃ i, vs = [.int i] ∧ Q (.bl true) H
theorem ok_law_whole (T : Txt mg) (D : Def K mg "_law_whole" s_law_whole) : Callee P w K mg base "_law_whole" 1 spWhole := by
  refine D.ok sc_law_whole bd_law_whole (fun vs H Q E h => ?len) (fun f cdv A outer s H vs Q E hr h => ?body)
  case len => obtain ⟨i, rfl, _⟩ := h; rfl
  case body =>
    obtain ⟨i, rfl, k⟩ := h
    refine ⟨_, (pss_one (ps_ret (pe_and (pe_callB (call_isinstanceK K) (by rfl) T.z_isinstance bt_isinstance (pa_cons (pv 0) (pa_cons (pe_bltn (by rfl) T.z_int bt_int (show RelV (.ty "int") _ from rfl)) pa_nil))) (pe_one (pe_not (pe_callB (call_isinstanceK K) (by rfl) T.z_isinstance bt_isinstance (pa_cons (pv 0) (pa_cons (pe_bltn (by rfl) T.z_bool bt_bool (show RelV (.ty "bool") _ from rfl)) pa_nil)))))))), ?_⟩
    dsimp only [tSeq, tAsg, gName, tOp, tUn, tTest, tB, tAnd, tOr, tNot, tAndV, tOrV, tNotV, tIf, tIfS, tRet, tRetN, tDrop, tNext, tCons, tNil, tCB, tCall, tMenu, tComp, tComp2, msk, List.zipWith, iZip2, iStr, iEnum, tNoIf, tTru, tJoin, cxOf_K, tLst, tTup, tSl, tPart, tNoPart, tBM, tBM0, tChain, tC, tFor_eq, gTup, gStar, gLst, gCons, gNil, gSub, iList, iRng1, iRng2, iRng3, iTup, tWhile, tRev, tRaise, tCallS, tTry, tAug, tPar, tNever, ipI, List.append_nil]
    try clear hu
    walk_at "st"
    exact k

abbrev bL (bs : List Bool) : List V := bs.map V.bl
theorem i_isx {H : Hp} {Q : VK} {e D C' : Addr} {b : Bool} (he : H e = some (.ext (ExcAt e (.ref D)))) (C : IsiCls K D) (hk : PySem.W.kitOne K (.ref D) (.ref C') = some b) (q : Q (.bl b) H) : rIsiX K [.ref e, .ref C'] H Q := ⟨e, D, _, _, b, rfl, fun _ h => h, he, C, hk, q⟩
theorem i_isxT {H : Hp} {Q : VK} {e D : Addr} {n : String} {b : Bool} (he : H e = some (.ext (ExcAt e (.ref D)))) (C : IsiCls K D) (hk : PySem.W.kitOne K (.ref D) (.type n) = some b) (q : Q (.bl b) H) : rIsiX K [.ref e, .ty n] H Q := ⟨e, D, _, _, b, rfl, fun _ h => h, he, C, hk, q⟩
theorem bt_ValueError : bootBuiltins "ValueError" = some (.type "ValueError") := by decide +kernel
structure KinF (Z : Cls K mg) (C : Addr) (b0 b1 b2 b3 b4 b5 b6 b7 b8 b9 b10 b11 : Bool) : Prop where
  isi : IsiCls K C
  f0 : PySem.W.kitOne K (.ref C) (.ref Z.c_NoTrain) = some b0
  f1 : PySem.W.kitOne K (.ref C) (.ref Z.c_NoStand) = some b1
  f2 : PySem.W.kitOne K (.ref C) (.ref Z.c_NoPaper) = some b2
  f3 : PySem.W.kitOne K (.ref C) (.ref Z.c_NoBox) = some b3
  f4 : PySem.W.kitOne K (.ref C) (.ref Z.c_NoSwitch) = some b4
  f5 : PySem.W.kitOne K (.ref C) (.ref Z.c_NoPlace) = some b5
  f6 : PySem.W.kitOne K (.ref C) (.ref Z.c_NoTable) = some b6
  f7 : PySem.W.kitOne K (.ref C) (.ref Z.c_NoText) = some b7
  f8 : PySem.W.kitOne K (.ref C) (.ref Z.c_NoRow) = some b8
  f9 : PySem.W.kitOne K (.ref C) (.ref Z.c_NoPiece) = some b9
  f10 : PySem.W.kitOne K (.ref C) (.ref Z.c_NothingLeft) = some b10
  f11 : PySem.W.kitOne K (.ref C) (.ref Z.c_TooMany) = some b11
  f12 : PySem.W.kitOne K (.ref C) (.type "ValueError") = some true
def spKinG (Z : Cls K mg) : Sp := fun vs H Q _ => ∃ (e C : Addr) (b0 b1 b2 b3 b4 b5 b6 b7 b8 b9 b10 b11 : Bool), vs = [.ref e] ∧ H e = some (.ext (ExcAt e (.ref C))) ∧ KinF Z C b0 b1 b2 b3 b4 b5 b6 b7 b8 b9 b10 b11 ∧ ∀ l H', Same H H' → H' l = some (.lst (bL [b0, b1, b2, b3, b4, b5, b6, b7, b8, b9, b10, b11, true])) → Q (.ref l) H'
theorem ok_law_a_kin (T : Txt mg) (Z : Cls K mg) (D : Def K mg "_law_a_kin" s_law_a_kin) : CalleeN P w K mg base "_law_a_kin" 1 (spKinG Z) := by
  refine Def.okN D sc_law_a_kin bd_law_a_kin (fun vs H Q E h => ?len) (fun f cdv A outer s H vs Q E hr h => ?body)
  case len => obtain ⟨e, C, b0, b1, b2, b3, b4, b5, b6, b7, b8, b9, b10, b11, rfl, _⟩ := h; rfl
  case body =>
    obtain ⟨e, C, b0, b1, b2, b3, b4, b5, b6, b7, b8, b9, b10, b11, rfl, hE, F, k⟩ := h
    refine ⟨_, (pss_cons (ps_set (i := 1) sc_law_a_kin.nd rfl (Or.inl rfl) (pe_lst (pa_cons (pe_callB (call_isinstanceX K) (by rfl) T.z_isinstance bt_isinstance (pa_cons (pv 0) (pa_cons (pe_globR Z.m_NoTrain (by rfl)) pa_nil))) (pa_cons (pe_callB (call_isinstanceX K) (by rfl) T.z_isinstance bt_isinstance (pa_cons (pv 0) (pa_cons (pe_globR Z.m_NoStand (by rfl)) pa_nil))) (pa_cons (pe_callB (call_isinstanceX K) (by rfl) T.z_isinstance bt_isinstance (pa_cons (pv 0) (pa_cons (pe_globR Z.m_NoPaper (by rfl)) pa_nil))) (pa_cons (pe_callB (call_isinstanceX K) (by rfl) T.z_isinstance bt_isinstance (pa_cons (pv 0) (pa_cons (pe_globR Z.m_NoBox (by rfl)) pa_nil))) pa_nil))))))
 (pss_cons (ps_set (i := 1) sc_law_a_kin.nd rfl (Or.inl rfl) (pe_op op_addP (pv 1) (pe_lst (pa_cons (pe_callB (call_isinstanceX K) (by rfl) T.z_isinstance bt_isinstance (pa_cons (pv 0) (pa_cons (pe_globR Z.m_NoSwitch (by rfl)) pa_nil))) (pa_cons (pe_callB (call_isinstanceX K) (by rfl) T.z_isinstance bt_isinstance (pa_cons (pv 0) (pa_cons (pe_globR Z.m_NoPlace (by rfl)) pa_nil))) (pa_cons (pe_callB (call_isinstanceX K) (by rfl) T.z_isinstance bt_isinstance (pa_cons (pv 0) (pa_cons (pe_globR Z.m_NoTable (by rfl)) pa_nil))) pa_nil))))))
 (pss_cons (ps_set (i := 1) sc_law_a_kin.nd rfl (Or.inl rfl) (pe_op op_addP (pv 1) (pe_lst (pa_cons (pe_callB (call_isinstanceX K) (by rfl) T.z_isinstance bt_isinstance (pa_cons (pv 0) (pa_cons (pe_globR Z.m_NoText (by rfl)) pa_nil))) (pa_cons (pe_callB (call_isinstanceX K) (by rfl) T.z_isinstance bt_isinstance (pa_cons (pv 0) (pa_cons (pe_globR Z.m_NoRow (by rfl)) pa_nil))) (pa_cons (pe_callB (call_isinstanceX K) (by rfl) T.z_isinstance bt_isinstance (pa_cons (pv 0) (pa_cons (pe_globR Z.m_NoPiece (by rfl)) pa_nil))) pa_nil))))))
 (pss_one (ps_ret (pe_op op_addP (pv 1) (pe_lst (pa_cons (pe_callB (call_isinstanceX K) (by rfl) T.z_isinstance bt_isinstance (pa_cons (pv 0) (pa_cons (pe_globR Z.m_NothingLeft (by rfl)) pa_nil))) (pa_cons (pe_callB (call_isinstanceX K) (by rfl) T.z_isinstance bt_isinstance (pa_cons (pv 0) (pa_cons (pe_globR Z.m_TooMany (by rfl)) pa_nil))) (pa_cons (pe_callB (call_isinstanceX K) (by rfl) T.z_isinstance bt_isinstance (pa_cons (pv 0) (pa_cons (pe_bltn (by rfl) T.z_ValueError bt_ValueError (show RelV (.ty "ValueError") _ from rfl)) pa_nil))) pa_nil)))))))))), ?_⟩
    dsimp only [tSeq, tAsg, gName, tOp, tUn, tTest, tB, tAnd, tOr, tNot, tAndV, tOrV, tNotV, tIf, tIfS, tRet, tRetN, tDrop, tNext, tCons, tNil, tCB, tCall, tMenu, tComp, tComp2, msk, List.zipWith, iZip2, iStr, iEnum, tNoIf, tTru, tJoin, cxOf_K, tLst, tTup, tSl, tPart, tNoPart, tBM, tBM0, tChain, tC, tFor_eq, gTup, gStar, gLst, gCons, gNil, gSub, iList, iRng1, iRng2, iRng3, iTup, tWhile, tRev, tRaise, tCallS, tTry, tAug, tPar, tNever, ipI, List.append_nil]
    try clear hu
    walk_at "st"
    refine i_isx hE F.isi F.f0 ?_
    walk_at "st"
    refine i_isx hE F.isi F.f1 ?_
    walk_at "st"
    refine i_isx hE F.isi F.f2 ?_
    walk_at "st"
    refine i_isx hE F.isi F.f3 ?_
    walk_at "st"
    intro l1 h1
    have s1 : Same H _ := same_upd (o := .lst [.bl b0, .bl b1, .bl b2, .bl b3]) h1
    have e1 : upd H l1 (.lst [.bl b0, .bl b1, .bl b2, .bl b3]) l1 = some (.lst [.bl b0, .bl b1, .bl b2, .bl b3]) := upd_same
    generalize upd H l1 (.lst [.bl b0, .bl b1, .bl b2, .bl b3]) = H1 at *
    have hE1 := s1 _ _ hE
    walk_at "st"
    refine i_isx hE1 F.isi F.f4 ?_
    walk_at "st"
    refine i_isx hE1 F.isi F.f5 ?_
    walk_at "st"
    refine i_isx hE1 F.isi F.f6 ?_
    walk_at "st"
    intro l2 h2
    refine i_addL (a := l1) (b := l2) (same_upd h2 _ _ e1) upd_same (szl (by simp)) (fun l3 h3 => ?_)
    have s3 : Same H1 _ := (same_upd (o := .lst [.bl b4, .bl b5, .bl b6]) h2).trans (same_upd (o := .lst ([.bl b0, .bl b1, .bl b2, .bl b3] ++ [.bl b4, .bl b5, .bl b6])) h3)
    have e3 : upd (upd H1 l2 (.lst [.bl b4, .bl b5, .bl b6])) l3 (.lst ([.bl b0, .bl b1, .bl b2, .bl b3] ++ [.bl b4, .bl b5, .bl b6])) l3 = some (.lst ([.bl b0, .bl b1, .bl b2, .bl b3] ++ [.bl b4, .bl b5, .bl b6])) := upd_same
    generalize upd (upd H1 l2 (.lst [.bl b4, .bl b5, .bl b6])) l3 (.lst ([.bl b0, .bl b1, .bl b2, .bl b3] ++ [.bl b4, .bl b5, .bl b6])) = H3 at *
    have S3 := s1.trans s3
    have hE3 := S3 _ _ hE
    walk_at "st"
    refine i_isx hE3 F.isi F.f7 ?_
    walk_at "st"
    refine i_isx hE3 F.isi F.f8 ?_
    walk_at "st"
    refine i_isx hE3 F.isi F.f9 ?_
    walk_at "st"
    intro l4 h4
    refine i_addL (a := l3) (b := l4) (same_upd h4 _ _ e3) upd_same (szl (by simp)) (fun l5 h5 => ?_)
    generalize hx5 : ([.bl b0, .bl b1, .bl b2, .bl b3] ++ [.bl b4, .bl b5, .bl b6] ++ [.bl b7, .bl b8, .bl b9] : List V) = x5 at *
    have s5 : Same H3 _ := (same_upd (o := .lst [.bl b7, .bl b8, .bl b9]) h4).trans (same_upd (o := .lst x5) h5)
    have e5 : upd (upd H3 l4 (.lst [.bl b7, .bl b8, .bl b9])) l5 (.lst x5) l5 = some (.lst x5) := upd_same
    generalize upd (upd H3 l4 (.lst [.bl b7, .bl b8, .bl b9])) l5 (.lst x5) = H5 at *
    have S5 := S3.trans s5
    have hE5 := S5 _ _ hE
    walk_at "st"
    refine i_isx hE5 F.isi F.f10 ?_
    walk_at "st"
    refine i_isx hE5 F.isi F.f11 ?_
    walk_at "st"
    refine i_isxT hE5 F.isi F.f12 ?_
    walk_at "st"
    intro l6 h6
    refine i_addL (a := l5) (b := l6) (same_upd h6 _ _ e5) upd_same (szl (by rw [← hx5]; simp)) (fun l7 h7 => ?_)
    refine k l7 _ ((S5.trans (same_upd h6)).trans (same_upd h7)) ?_
    rw [upd_same, ← hx5]
    rfl

def kinNames : List Str := ["NoTrain", "NoStand", "NoPaper", "NoBox", "NoSwitch", "NoPlace", "NoTable", "NoText", "NoRow", "NoPiece", "NothingLeft", "TooMany"]
theorem pd_str {H : Hp} {n : Nat} {x : Str} (h : PyData.strOk x = true) : PdAt K H n (.str x) (.str x) := by cases n <;> exact ⟨rfl, h⟩
theorem i_eqS {H : Hp} {Q : VK} {x y : Str} (hx : PyData.strOk x = true) (hy : PyData.strOk y = true) (q : Q (.bl (x == y)) H) : rEqP K (.str x) (.str y) H Q := ⟨_, _, pd_str hx, pd_str hy, by simpa [PyData.eqv] using q⟩
theorem i_neS {H : Hp} {Q : VK} {x y : Str} (hx : PyData.strOk x = true) (hy : PyData.strOk y = true) (q : Q (.bl (!(x == y))) H) : rNeP K (.str x) (.str y) H Q := ⟨_, _, pd_str hx, pd_str hy, by simpa [PyData.eqv] using q⟩
theorem names_ok : kinNames.all PyData.strOk = true := by decide +kernel
def dueX (x : Str) : List Bool := kinNames.map (· == x) ++ [true]
def spDueKinG : Sp := fun vs H Q _ => ∃ x : Str, vs = [.str x] ∧ PyData.strOk x = true ∧ ∀ l H', Same H H' → H' l = some (.lst (bL (dueX x))) → Q (.ref l) H'
theorem ok_law_due_kin (T : Txt mg) (D : Def K mg "_law_due_kin" s_law_due_kin) : Callee P w K mg base "_law_due_kin" 1 spDueKinG := by
  refine D.ok sc_law_due_kin bd_law_due_kin (fun vs H Q E h => ?len) (fun f cdv A outer s H vs Q E hr h => ?body)
  case len => obtain ⟨x, rfl, _⟩ := h; rfl
  case body =>
    obtain ⟨nm, rfl, hnm, k⟩ := h
    have hu := hr.units
    refine ⟨_, (pss_cons (ps_set (i := 1) sc_law_due_kin.nd rfl (Or.inl rfl) (pe_lst (pa_cons pe_str (pa_cons pe_str (pa_cons pe_str (pa_cons pe_str (pa_cons pe_str (pa_cons pe_str (pa_cons pe_str (pa_cons pe_str (pa_cons pe_str pa_nil)))))))))))
 (pss_cons (ps_set (i := 1) sc_law_due_kin.nd rfl (Or.inl rfl) (pe_op op_addP (pv 1) (pe_lst (pa_cons pe_str (pa_cons pe_str (pa_cons pe_str pa_nil))))))
 (pss_one (ps_ret (pe_op op_addP (by exact pe_comp (N := ["one", "name"]) (fr := [none, some 0]) ⟨by rfl, by decide +kernel, by decide +kernel, (show ∀ y ∈ (_ : List (Str × NameKind)), y.2 = NameKind.free → (defScope s_law_due_kin).names.lookup y.1 = some .cell ∨ (defScope s_law_due_kin).names.lookup y.1 = some .free by decide +kernel), (fr_none (fr_some (by rfl) (by first | exact Or.inl rfl | exact Or.inr rfl) (by rfl) fr_nil))⟩ (by rfl) (pi_listK K (pv 1)) (fun _ _ _ _ => (pg_name (i := 0) (show List.Nodup (["one", "name"] : List Str) by decide) (by rfl) (by first | exact Or.inl rfl | exact Or.inr rfl))) (fun _ _ _ _ => pifs_nil) (fun _ _ _ _ => (pe_cmpR (op_eqK K hu) (pv 0) (pv 1) (nomark _))) (gw_name (by rfl))) (pe_lst (pa_cons pe_bl pa_nil))))))), ?_⟩
    dsimp only [tSeq, tAsg, gName, tOp, tUn, tTest, tB, tAnd, tOr, tNot, tAndV, tOrV, tNotV, tIf, tIfS, tRet, tRetN, tDrop, tNext, tCons, tNil, tCB, tCall, tMenu, tComp, tComp2, msk, List.zipWith, iZip2, iStr, iEnum, tNoIf, tTru, tJoin, cxOf_K, tLst, tTup, tSl, tPart, tNoPart, tBM, tBM0, tChain, tC, tFor_eq, gTup, gStar, gLst, gCons, gNil, gSub, iList, iRng1, iRng2, iRng3, iTup, tWhile, tRev, tRaise, tCallS, tTry, tAug, tPar, tNever, ipI, List.append_nil]
    try clear hu
    walk_at "st"
    intro l1 h1
    walk_at "st"
    intro l2 h2
    refine i_addL (a := l1) (b := l2) (same_upd h2 _ _ upd_same) upd_same (szl (by simp)) (fun l3 h3 => ?_)
    have s3' : ∀ o, Same H (upd _ l3 o) := fun o => ((same_upd h1).trans (same_upd h2)).trans (same_upd (o := o) h3)
    generalize hH : upd _ l3 _ = H3
    have s3 : Same H H3 := by rw [← hH]; exact s3' _
    have e4 : H3 l3 = some (.lst (kinNames.map V.str)) := by rw [← hH, upd_same]; rfl
    walk_at "st"
    refine ⟨⟨_, SqL.of e4⟩, cp_list (xs := kinNames.map V.str) (fun i ys H4 => ys = bL ((kinNames.take i).map (· == nm)) ∧ i ≤ 12 ∧ H3 = H4) ⟨by simp [bL], Nat.zero_le _, rfl⟩ ?_ (szlt (by simp [kinNames])) ?_ ?_⟩
    · rintro i ys H4 ⟨rfl, hi, rfl⟩
      exact ⟨SqL.of e4, by simp [bL]; omega⟩
    · rintro i x ys H4 hx ⟨rfl, hi, rfl⟩
      rw [List.getElem?_map] at hx
      obtain ⟨z, hz, rfl⟩ := Option.map_eq_some_iff.mp hx
      have hil : i < kinNames.length := (List.getElem?_eq_some_iff.mp hz).1
      walk_at "st"
      refine i_eqS (List.all_eq_true.mp names_ok z (List.mem_of_getElem? hz)) hnm ?_
      refine ⟨?_, by simp [kinNames] at hil; omega, rfl⟩
      rw [take_snoc_get hz]
      simp [bL]
    · rintro l5 ys H4 ⟨rfl, hi, rfl⟩ h5
      walk_at "st"
      intro l6 h6
      refine i_addL (a := l5) (b := l6) (same_upd h6 _ _ upd_same) upd_same (szl (by simp [bL, kinNames])) (fun l7 h7 => ?_)
      refine k l7 _ (((s3.trans (same_upd h5)).trans (same_upd h6)).trans (same_upd h7)) ?_
      rw [upd_same]
      rfl

--SPLIT
def spIsTrain (K : PySem.W.Frag) : Sp := fun vs H Q _ => ∃ (a : Addr) (ps : List Int), vs = [.ref a] ∧ SqL K H a (iL ps) ∧ ∀ b : Bool, (b = true ↔ isTr ps) → Q (.bl b) H
theorem ok_is_train (T : Txt mg) (D : Def K mg "is_train" s_is_train) : Callee P w K mg base "is_train" 1 (spIsTrain K) := by
  refine D.ok sc_is_train bd_is_train (fun vs H Q E h => ?len) (fun f cdv A outer s H vs Q E hr h => ?body)
  case len => obtain ⟨a, ps, rfl, _⟩ := h; rfl
  case body =>
    obtain ⟨a, ps, rfl, hS, k⟩ := h
    refine ⟨_, (pss_one (ps_ret (pe_and (pe_chain op_le op_le pe_int (pe_callB (call_lenK K) (by rfl) T.z_len bt_len (pa_cons (pv 0) pa_nil)) (pe_globI T.g_MOST_PLAYS (by rfl))) (pe_one (pe_cmpR op_ge (pe_callB (call_minK K) (by rfl) T.z_min bt_min (pa_cons (pv 0) pa_nil)) pe_int (nomark _)))))), ?_⟩
    dsimp only [tSeq, tAsg, gName, tOp, tUn, tTest, tB, tAnd, tOr, tNot, tAndV, tOrV, tNotV, tIf, tIfS, tRet, tRetN, tDrop, tNext, tCons, tNil, tCB, tCall, tMenu, tComp, tComp2, msk, List.zipWith, iZip2, iStr, iEnum, tNoIf, tTru, tJoin, cxOf_K, tLst, tTup, tSl, tPart, tNoPart, tBM, tBM0, tChain, tC, tFor_eq, gTup, gStar, gLst, gCons, gNil, gSub, iList, iRng1, iRng2, iRng3, iTup, tWhile, tRev, tRaise, tCallS, tTry, tAug, tPar, tNever, ipI, List.append_nil]
    try clear hu
    walk_at "st"
    refine i_lenI hS ?_
    walk_at "st"
    refine i_if (fun g1 => ?_) (fun g1 => ?_)
    · walk_at "st"
      refine i_if (fun g2 => ?_) (fun g2 => ?_)
      · walk_at "st"
        refine i_minL hS (by omega) (fun m hm hle => ?_)
        walk_at "st"
        refine k _ ⟨fun z => ⟨by omega, by omega, fun p hp => ?_⟩, fun z => ?_⟩
        · have := hle p hp
          have := of_decide_eq_true z
          omega
        · exact decide_eq_true (z.2.2 m hm)
      · exact k _ ⟨fun z => (Bool.noConfusion z), fun z => absurd z.2.1 (by omega)⟩
    · walk_at "st"
      exact k _ ⟨fun z => (Bool.noConfusion z), fun z => absurd z.1 (by omega)⟩

def spKeeps (K : PySem.W.Frag) : Sp := fun vs H Q _ => ∃ (a b : Addr) (ps xs : List Int) (hd : Int), vs = [.ref a, .int hd, .ref b] ∧ SqL K H a (iL ps) ∧ SqL K H b (iL xs) ∧ ∀ (r : Bool) H', (r = true ↔ keeps ps hd xs) → Same H H' → Q (.bl r) H'
theorem keeps_end {ps xs : List Int} {a : Int} : keeps (ps.drop (min ps.length xs.length)) a (xs.drop (min ps.length xs.length)) := by
  by_cases h : ps.length ≤ xs.length
  · rw [Nat.min_eq_left h, List.drop_of_length_le (Nat.le_refl _)]; trivial
  · rw [Nat.min_eq_right (by omega), List.drop_of_length_le (l := xs) (Nat.le_refl _)]
    cases ps.drop xs.length <;> trivial
theorem ok_keeps_plays (T : Txt mg) (D : Def K mg "keeps_plays" s_keeps_plays) : Callee P w K mg base "keeps_plays" 1 (spKeeps K) := by
  refine D.ok sc_keeps_plays bd_keeps_plays (fun vs H Q E h => ?len) (fun f cdv A outer s H vs Q E hr h => ?body)
  case len => obtain ⟨a, b, ps, xs, hd, rfl, _⟩ := h; rfl
  case body =>
    obtain ⟨a, b, ps, xs, hd, rfl, hA, hB, k⟩ := h
    refine ⟨_, (pss_cons (ps_set (i := 3) sc_keeps_plays.nd rfl (Or.inl rfl) (pv 1))
 (pss_cons (ps_for PassesOwn.never rfl (pi_zip2K K (by rfl) T.z_zip (pa_cons (pv 0) (pa_cons (pv 2) pa_nil))) (pg_tupK K 2 (pgs_cons (pg_name (i := 4) sc_keeps_plays.nd rfl (Or.inl rfl)) (pgs_cons (pg_name (i := 5) sc_keeps_plays.nd rfl (Or.inl rfl)) pgs_nil)))
 (pss_cons (ps_if (pt_cmpR op_gt (pe_callB call_absK (by rfl) T.z_abs bt_abs (pa_cons (pe_op op_sub (pv 5) (pv 3)) pa_nil)) (pv 4) (nomark _))
 (pss_one (ps_ret pe_bl))
 pss_nil)
 (pss_one (ps_set (i := 3) sc_keeps_plays.nd rfl (Or.inl rfl) (pv 5)))))
 (pss_one (ps_ret pe_bl)))), ?_⟩
    dsimp only [tSeq, tAsg, gName, tOp, tUn, tTest, tB, tAnd, tOr, tNot, tAndV, tOrV, tNotV, tIf, tIfS, tRet, tRetN, tDrop, tNext, tCons, tNil, tCB, tCall, tMenu, tComp, tComp2, msk, List.zipWith, iZip2, iStr, iEnum, tNoIf, tTru, tJoin, cxOf_K, tLst, tTup, tSl, tPart, tNoPart, tBM, tBM0, tChain, tC, tFor_eq, gTup, gStar, gLst, gCons, gNil, gSub, iList, iRng1, iRng2, iRng3, iTup, tWhile, tRev, tRaise, tCallS, tTry, tAug, tPar, tNever, ipI, List.append_nil]
    try clear hu
    walk_at "st"
    refine ⟨_, _, rfl, ⟨_, hA⟩, ⟨_, hB⟩, lp_zip (xs := iL ps) (ys := iL xs) (fun i σ H2 => ∃ (ah : Int) (u v : Option V), σ = [some (.ref a), some (.int hd), some (.ref b), some (.int ah), u, v] ∧ Same H H2 ∧ (keeps ps hd xs ↔ keeps (ps.drop i) ah (xs.drop i))) ?_ ?_ ?_ ?_⟩
    · exact ⟨hd, _, _, rfl, Same.refl _, Iff.rfl⟩
    · rintro i σ H2 ⟨ah, u, v, rfl, sm, hk⟩
      exact ⟨sm.seq hA, sm.seq hB⟩
    · rintro i x y t σ H2 hx hy ⟨ah, u, v, rfl, sm, hk⟩ ht
      rw [List.getElem?_map] at hx hy
      obtain ⟨p, hp, rfl⟩ := Option.map_eq_some_iff.mp hx
      obtain ⟨q, hq, rfl⟩ := Option.map_eq_some_iff.mp hy
      walk_at "st"
      refine ⟨_, _, rfl, SqT.of upd_same, rfl, _, _, rfl, _, _, rfl, rfl, ?_⟩
      walk_at "st"
      rw [dropc hp, dropc hq] at hk
      refine i_if (fun g => ?_) (fun g => ?_)
      · walk_at "st"
        refine k _ _ ⟨fun z => (Bool.noConfusion z), fun z => ?_⟩ (sm.trans (same_upd ht))
        have := (hk.mp z).1
        split at g <;> omega
      · walk_at "st"
        refine ⟨q, _, _, rfl, sm.trans (same_upd ht), hk.trans ⟨fun z => z.2, fun z => ⟨?_, z⟩⟩⟩
        split at g <;> omega
    · rintro σ H2 ⟨ah, u, v, rfl, sm, hk⟩
      walk_at "st"
      refine k _ _ ⟨fun _ => hk.mpr ?_, fun _ => rfl⟩ sm
      simp only [iL, List.length_map]
      exact keeps_end

def spRefTrainE (K : PySem.W.Frag) (C : Addr) : Sp := fun vs H Q E => ∃ (a : Addr) (ps : List Int), vs = [.ref a] ∧ SqL K H a (iL ps) ∧ (isTr ps → Q .non H) ∧ (¬ isTr ps → E (.ref C) none H)
theorem ok_refuse_no_train (T : Txt mg) (Z : Cls K mg) (D : Def K mg "refuse_no_train" s_refuse_no_train) (C_is_train : Callee P w K mg base "is_train" 1 (spIsTrain K)) : CalleeE P w K mg base "refuse_no_train" 2 (spRefTrainE K Z.c_NoTrain) := by
  refine Def.okE D sc_refuse_no_train bd_refuse_no_train (fun vs H Q E h => ?len) (fun f cdv A outer s H vs Q E hr h => ?body)
  case len => obtain ⟨a, ps, rfl, _⟩ := h; rfl
  case body =>
    obtain ⟨a, ps, rfl, hS, k1, k2⟩ := h
    refine ⟨_, (pss_one (ps_if (pt_not (pt_truthK K (pe_callN C_is_train (hr.mono (by decide)) (by rfl) (pa_cons (pv 0) pa_nil))))
 (pss_one (ps_raise Z.exc_NoTrain PySem.F.excBase_ValueError (by rfl) (pa_cons pe_str pa_nil)))
 pss_nil)), ?_⟩
    dsimp only [tSeq, tAsg, gName, tOp, tUn, tTest, tB, tAnd, tOr, tNot, tAndV, tOrV, tNotV, tIf, tIfS, tRet, tRetN, tDrop, tNext, tCons, tNil, tCB, tCall, tMenu, tComp, tComp2, msk, List.zipWith, iZip2, iStr, iEnum, tNoIf, tTru, tJoin, cxOf_K, tLst, tTup, tSl, tPart, tNoPart, tBM, tBM0, tChain, tC, tFor_eq, gTup, gStar, gLst, gCons, gNil, gSub, iList, iRng1, iRng2, iRng3, iTup, tWhile, tRev, tRaise, tCallS, tTry, tAug, tPar, tNever, ipI, List.append_nil]
    try clear hu
    walk_at "st"
    refine ⟨a, ps, rfl, hS, fun b hb => ?_⟩
    cases b with
    | true =>
      walk_at "st"
      exact k1 (hb.mp rfl)
    | false =>
      walk_at "st"
      exact ⟨by simp, k2 fun z => by have := hb.mpr z; cases this⟩

def spIsStandE (K : PySem.W.Frag) (C : Addr) : Sp := fun vs H Q E => ∃ (a b : Addr) (ps xs : List Int) (hd : Int), vs = [.ref a, .int hd, .ref b] ∧ SqL K H a (iL ps) ∧ SqL K H b (iL xs) ∧ (isTr ps → ∀ (r : Bool) H', (r = true ↔ stand ps hd xs) → Same H H' → Q (.bl r) H') ∧ (¬ isTr ps → E (.ref C) none H)
theorem ok_is_stand (T : Txt mg) (Z : Cls K mg) (D : Def K mg "is_stand" s_is_stand) (C_refuse_no_train : CalleeE P w K mg base "refuse_no_train" 2 (spRefTrainE K Z.c_NoTrain)) (C_keeps_plays : Callee P w K mg base "keeps_plays" 1 (spKeeps K)) : CalleeE P w K mg base "is_stand" 3 (spIsStandE K Z.c_NoTrain) := by
  refine Def.okE D sc_is_stand bd_is_stand (fun vs H Q E h => ?len) (fun f cdv A outer s H vs Q E hr h => ?body)
  case len => obtain ⟨a, b, ps, xs, hd, rfl, _⟩ := h; rfl
  case body =>
    obtain ⟨a, b, ps, xs, hd, rfl, hA, hB, k, k2⟩ := h
    have hu := hr.units
    refine ⟨_, (pss_cons (ps_expr (pe_callE C_refuse_no_train (hr.mono (by decide)) (by rfl) (pa_cons (pv 0) pa_nil)))
 (pss_one (ps_ret (pe_and (pe_cmpR (op_eqK K hu) (pe_callB (call_lenK K) (by rfl) T.z_len bt_len (pa_cons (pv 2) pa_nil)) (pe_callB (call_lenK K) (by rfl) T.z_len bt_len (pa_cons (pv 0) pa_nil)) (nomark _)) (pe_one (pe_callN C_keeps_plays (hr.mono (by decide)) (by rfl) (pa_cons (pv 0) (pa_cons (pv 1) (pa_cons (pv 2) pa_nil))))))))), ?_⟩
    dsimp only [tSeq, tAsg, gName, tOp, tUn, tTest, tB, tAnd, tOr, tNot, tAndV, tOrV, tNotV, tIf, tIfS, tRet, tRetN, tDrop, tNext, tCons, tNil, tCB, tCall, tMenu, tComp, tComp2, msk, List.zipWith, iZip2, iStr, iEnum, tNoIf, tTru, tJoin, cxOf_K, tLst, tTup, tSl, tPart, tNoPart, tBM, tBM0, tChain, tC, tFor_eq, gTup, gStar, gLst, gCons, gNil, gSub, iList, iRng1, iRng2, iRng3, iTup, tWhile, tRev, tRaise, tCallS, tTry, tAug, tPar, tNever, ipI, List.append_nil]
    try clear hu
    walk_at "st"
    refine ⟨a, ps, rfl, hA, fun ht => ?_, k2⟩
    have k := k ht
    walk_at "st"
    refine i_lenI hB ?_
    walk_at "st"
    refine i_lenI hA ?_
    walk_at "st"
    refine i_if (fun g => ?_) (fun g => ?_)
    · walk_at "st"
      exact ⟨a, b, ps, xs, hd, rfl, hA, hB, fun r H' hr' sm => k r H' (hr'.trans ⟨fun z => ⟨by omega, z⟩, fun z => z.2⟩) sm⟩
    · exact k _ _ ⟨fun z => (Bool.noConfusion z), fun z => absurd z.1 (by omega)⟩ (Same.refl _)

theorem pdb (bs : List Bool) {H : Hp} {n : Nat} : Paired (PdAt K H n) (bs.map PyData.bool) (bL bs) := by
  induction bs with
  | nil => exact .nil
  | cons b bs ih => exact .cons pd_bl ih
theorem ixN_pos {n : Nat} {k : Int} (h0 : 0 ≤ k) (h1 : k < n) : ixN n k = some k.toNat := by
  unfold ixN
  first | (simp; omega) | (split <;> simp_all <;> omega)

def spRefStandE (K : PySem.W.Frag) (CT CS : Addr) : Sp := fun vs H Q E => ∃ (a b : Addr) (ps xs : List Int) (hd : Int), vs = [.ref a, .int hd, .ref b] ∧ SqL K H a (iL ps) ∧ SqL K H b (iL xs) ∧ (isTr ps → stand ps hd xs → ∀ H', Same H H' → Q .non H') ∧ Exs E H CT CS (isTr ps) (stand ps hd xs)
theorem ok_refuse_no_stand (T : Txt mg) (Z : Cls K mg) (D : Def K mg "refuse_no_stand" s_refuse_no_stand) (C_is_stand : CalleeE P w K mg base "is_stand" 3 (spIsStandE K Z.c_NoTrain)) : CalleeE P w K mg base "refuse_no_stand" 4 (spRefStandE K Z.c_NoTrain Z.c_NoStand) := by
  refine Def.okE D sc_refuse_no_stand bd_refuse_no_stand (fun vs H Q E h => ?len) (fun f cdv A outer s H vs Q E hr h => ?body)
  case len => obtain ⟨a, b, ps, xs, hd, rfl, _⟩ := h; rfl
  case body =>
    obtain ⟨a, b, ps, xs, hd, rfl, hA, hB, k, x⟩ := h
    refine ⟨_, (pss_one (ps_if (pt_not (pt_truthK K (pe_callE C_is_stand (hr.mono (by decide)) (by rfl) (pa_cons (pv 0) (pa_cons (pv 1) (pa_cons (pv 2) pa_nil))))))
 (pss_one (ps_raise Z.exc_NoStand PySem.F.excBase_ValueError (by rfl) (pa_cons pe_str pa_nil)))
 pss_nil)), ?_⟩
    dsimp only [tSeq, tAsg, gName, tOp, tUn, tTest, tB, tAnd, tOr, tNot, tAndV, tOrV, tNotV, tIf, tIfS, tRet, tRetN, tDrop, tNext, tCons, tNil, tCB, tCall, tMenu, tComp, tComp2, msk, List.zipWith, iZip2, iStr, iEnum, tNoIf, tTru, tJoin, cxOf_K, tLst, tTup, tSl, tPart, tNoPart, tBM, tBM0, tChain, tC, tFor_eq, gTup, gStar, gLst, gCons, gNil, gSub, iList, iRng1, iRng2, iRng3, iTup, tWhile, tRev, tRaise, tCallS, tTry, tAug, tPar, tNever, ipI, List.append_nil]
    try clear hu
    walk_at "st"
    refine ⟨a, b, ps, xs, hd, rfl, hA, hB, fun ht r H' hr' sm => ?_, fun hn => x.1 hn _ (Same.refl _)⟩
    cases r with
    | true =>
      walk_at "st"
      exact k ht (hr'.mp rfl) H' sm
    | false =>
      walk_at "st"
      exact ⟨by simp, x.2 ht (fun z => by have := hr'.mpr z; cases this) H' sm⟩

--SPLIT
theorem ifT {b : Bool} {A B : Prop} (e : b = true) (h : A) : if b = true then A else B := by rw [if_pos e]; exact h
theorem ifF {b : Bool} {A B : Prop} (e : b = false) (h : B) : if b = true then A else B := by rw [if_neg (by rw [e]; exact Bool.false_ne_true)]; exact h

theorem figs_len (w : List Nat) : (figs w).length ≤ w.length := by
  unfold figs
  split
  · simp
  · exact Nat.le_refl _
def spIsNum : Sp := fun vs H Q _ => ∃ x, vs = [.str x] ∧ Asc x ∧ x.length ≤ 20000 ∧ ∀ H', Same H H' → Q (.bl (decide (numW (sg x)))) H'
theorem ok_is_number (T : Txt mg) (D : Def K mg "is_number" s_is_number) : Callee P w K mg base "is_number" 1 spIsNum := by
  refine D.ok sc_is_number bd_is_number (fun vs H Q E h => ?len) (fun f cdv A outer s H vs Q E hr h => ?body)
  case len => obtain ⟨x, rfl, _⟩ := h; rfl
  case body =>
    obtain ⟨x, rfl, hA, hl, k⟩ := h
    have hu := hr.units
    refine ⟨_, (pss_join (ps_set (i := 1) sc_is_number.nd rfl (Or.inl rfl) (pe_ifExp (pt_truthK K (pe_bmK K PySem.F.plainAttrs_str PySem.F.slot_str_startswith PySem.F.type_str_startswith mt_startswith (pv 0) (pa_cons pe_str pa_nil))) (pe_slice (sl_Q (K := K)) (pv 0) (po_some pe_int) po_none) (pv 0)))
 (pss_cons (ps_if (pt_not (pt_chain op_le op_le pe_int (pe_callB (call_lenK K) (by rfl) T.z_len bt_len (pa_cons (pv 1) pa_nil)) (pe_globI T.g_MOST_FIGURES (by rfl))))
 (pss_one (ps_ret pe_bl))
 pss_nil)
 (pss_cons (ps_if (pt_not (pt_truthK K (pe_callB (call_allK K) (by rfl) T.z_all bt_all (pa_cons (by exact pe_comp (N := ["sign"]) (fr := [none]) ⟨by rfl, by decide +kernel, by decide +kernel, (show ∀ y ∈ (_ : List (Str × NameKind)), y.2 = NameKind.free → (defScope s_is_number).names.lookup y.1 = some .cell ∨ (defScope s_is_number).names.lookup y.1 = some .free by decide +kernel), (fr_none fr_nil)⟩ (by rfl) (pi_str (pv 1)) (fun _ _ _ _ => (pg_name (i := 0) (show List.Nodup (["sign"] : List Str) by decide) (by rfl) (by first | exact Or.inl rfl | exact Or.inr rfl))) (fun _ _ _ _ => pifs_nil) (fun _ _ _ _ => (pe_cmpR (op_inQ (K := K)) (pv 0) (pe_globS T.g_FIGURES (by rfl)) (by rfl))) (gw_name (by rfl))) pa_nil))))
 (pss_one (ps_ret pe_bl))
 pss_nil)
 (pss_one (ps_ret (pe_or (pe_cmpR (op_neK K hu) (pe_ix (ix_Q (K := K)) (pv 1) pe_int (by exact fun _ _ => rfl)) pe_str (nomark _)) (pe_one (pe_cmpR (op_eqK K hu) (pv 0) pe_str (nomark _))))))))), ?_⟩
    dsimp only [tSeq, tAsg, gName, tOp, tUn, tTest, tB, tAnd, tOr, tNot, tAndV, tOrV, tNotV, tIf, tIfS, tRet, tRetN, tDrop, tNext, tCons, tNil, tCB, tCall, tMenu, tComp, tComp2, msk, List.zipWith, iZip2, iStr, iEnum, tNoIf, tTru, tJoin, cxOf_K, tLst, tTup, tSl, tPart, tNoPart, tBM, tBM0, tChain, tC, tFor_eq, gTup, gStar, gLst, gCons, gNil, gSub, iList, iRng1, iRng2, iRng3, iTup, tWhile, tRev, tRaise, tCallS, tTry, tAug, tPar, tNever, ipI, List.append_nil]
    try clear hu
    walk_at "st"
    refine ⟨fun σ H1 => ∃ f, σ = [some (.str x), some (.str f)] ∧ sg f = figs (sg x) ∧ H = H1, ?_, ?_⟩
    · walk_at "st"
      refine ⟨rfl, i_starts ?_⟩
      rw [show (Str.ofString "-" : Str) = ⟨#[45]⟩ from rfl, starts_one]
      walk_at "st"
      by_cases hm : (sg x).head? = some 45
      · refine ifT (by simp [hm]) ?_
        walk_at "st"
        refine i_slS (by omega) ?_
        refine ⟨_, rfl, ?_, rfl⟩
        rw [txt_from x (by decide)]
        unfold figs
        rw [if_pos hm]
        simp
      · refine ifF (by simp [hm]) ?_
        walk_at "st"
        refine ⟨?_, rfl⟩
        unfold figs
        rw [if_neg hm]
    rintro σ H1 ⟨f, rfl, hf, rfl⟩
    have hfl : f.length = (figs (sg x)).length := by rw [← hf, sg_len]
    have hfx := figs_len (sg x)
    rw [sg_len] at hfx
    have hfA : Asc f := fun c hc => hA c (by
      rw [hf] at hc
      unfold figs at hc
      split at hc
      · exact List.mem_of_mem_tail hc
      · exact hc)
    have no : ¬ numW (sg x) → ∀ H', Same H H' → Q (.bl false) H' := fun hn H' s' => by
      have := k H' s'
      rwa [decide_eq_false hn] at this
    walk_at "st"
    refine i_lenS (by omega) ?_
    walk_at "st"
    refine i_if (fun g1 => ?_) (fun g1 => ?_)
    rotate_left
    · walk_at "st"
      exact no (fun z => g1 (by have := z.1; omega)) _ (Same.refl _)
    walk_at "st"
    refine i_ifn (fun g2 => ?_) (fun g2 => ?_)
    · exact no (fun z => g2 (by have := z.2.1; omega)) _ (Same.refl _)
    walk_at "st"
    refine ⟨hfA.all, cp_str (fun i ys H2 => ys = ((sg f).take i).map (fun c => V.bl (decide (c ∈ sg (Str.ofString "0123456789")))) ∧ H = H2) ⟨rfl, rfl⟩ ?_ (szlt (by omega)) ?_ ?_⟩
    · rintro i ys H2 ⟨rfl, rfl⟩
      simp
      omega
    · rintro i c ys H2 hc ⟨rfl, rfl⟩
      walk_at "st"
      refine i_inC ?_
      refine ⟨?_, rfl⟩
      rw [take_snoc_get hc, List.map_append]
      rfl
    rintro l ys H2 ⟨rfl, rfl⟩ hl2
    rw [← sg_len, List.take_of_length_le (Nat.le_refl _)]
    have s2 : Same H _ := same_upd (o := .lst ((sg f).map fun c => V.bl (decide (c ∈ sg (Str.ofString "0123456789"))))) hl2
    have e2 : upd H l (.lst ((sg f).map fun c => V.bl (decide (c ∈ sg (Str.ofString "0123456789"))))) l = some (.lst (((sg f).map fun c => decide (c ∈ sg (Str.ofString "0123456789"))).map V.bl)) := by rw [upd_same, List.map_map]; rfl
    generalize upd H l (.lst ((sg f).map fun c => V.bl (decide (c ∈ sg (Str.ofString "0123456789"))))) = H2 at *
    have hdig : ∀ c, c ∈ sg (Str.ofString "0123456789") ↔ 48 ≤ c ∧ c ≤ 57 := fun c => by
      show c ∈ [48, 49, 50, 51, 52, 53, 54, 55, 56, 57] ↔ _
      simp
      omega
    walk_at "st"
    refine i_all K (SqL.of e2) ?_
    walk_at "st"
    have hall : (((sg f).map fun c => decide (c ∈ sg (Str.ofString "0123456789"))).all id) = decide (∀ c ∈ figs (sg x), 48 ≤ c ∧ c ≤ 57) := by
      rw [Bool.eq_iff_iff, ← hf, List.all_eq_true, decide_eq_true_iff]
      constructor
      · intro z c hc
        exact (hdig c).mp (of_decide_eq_true (z _ (List.mem_map.mpr ⟨c, hc, rfl⟩)))
      · intro z b hb
        obtain ⟨c, hc, rfl⟩ := List.mem_map.mp hb
        exact decide_eq_true ((hdig c).mpr (z c hc))
    rw [hall]
    by_cases hd : ∀ c ∈ figs (sg x), 48 ≤ c ∧ c ≤ 57
    rotate_left
    · refine ifT (by rw [decide_eq_false hd]; rfl) ?_
      exact no (fun z => hd z.2.2.1) _ s2
    refine ifF (by rw [decide_eq_true hd]; rfl) ?_
    obtain ⟨c0, r, hc0⟩ : ∃ c r, sg f = c :: r := by
      cases e : sg f with
      | nil => rw [← sg_len, e] at g1; simp at g1
      | cons c r => exact ⟨c, r, rfl⟩
    walk_at "st"
    refine i_ixS (by omega) (by decide) (c := c0) (by show (sg f)[0]? = _; rw [hc0]; rfl) ?_
    have hc1 : Asc ⟨#[c0]⟩ := fun c hc => hfA c (by rw [hc0]; simp at hc ⊢; exact .inl hc)
    walk_at "st"
    refine i_neS hc1.ok (by decide +kernel) ?_
    walk_at "st"
    have hx0 : sg (Str.ofString "0") = [48] := rfl
    have hz : ((⟨#[c0]⟩ : Str) == Str.ofString "0") = decide (c0 = 48) := by
      rw [Bool.eq_iff_iff, beq_iff_eq, decide_eq_true_iff]
      constructor
      · intro z
        have : [c0] = [48] := congrArg sg z
        simpa using this
      · rintro rfl
        rfl
    rw [hz]
    have hnum : numW (sg x) ↔ (c0 ≠ 48 ∨ sg x = [48]) := by
      unfold numW
      rw [← hf, hc0]
      rw [hc0] at hf
      rw [← hf] at hd
      have : (c0 :: r).length = f.length := by rw [← hc0, sg_len]
      constructor
      · rintro ⟨_, _, _, z | z⟩
        · exact .inl (by simpa using z)
        · exact .inr z
      · intro z
        refine ⟨by omega, by omega, hd, ?_⟩
        rcases z with z | z
        · exact .inl (by simpa using z)
        · exact .inr z
    by_cases h48 : c0 = 48
    · refine ifF (by simp [h48]) ?_
      walk_at "st"
      refine i_eqS hA.ok (by decide +kernel) ?_
      have := k _ s2
      rwa [show decide (numW (sg x)) = (x == Str.ofString "0") from ?_] at this
      rw [Bool.eq_iff_iff, decide_eq_true_iff, hnum, beq_iff_eq]
      constructor
      · rintro (z | z)
        · exact absurd h48 z
        · exact sg_ext z
      · rintro rfl
        exact .inr rfl
    · refine ifT (by simp [h48]) ?_
      have := k _ s2
      rwa [decide_eq_true (hnum.mpr (.inl h48))] at this

--SPLIT
def spAreNums : Sp := fun vs H Q _ => ∃ (p : Addr) (ss : List Str), vs = [.ref p] ∧ H p = some (.lst (ss.map V.str)) ∧ (∀ s ∈ ss, Asc s ∧ s.length ≤ 20000) ∧ ss.length ≤ 20001 ∧ ∀ H', Same H H' → Q (.bl (decide (∀ s ∈ ss, numW (sg s)))) H'
theorem ok_are_numbers (T : Txt mg) (D : Def K mg "are_numbers" s_are_numbers) (C_is_number : Callee P w K mg base "is_number" 1 spIsNum) : Callee P w K mg base "are_numbers" 2 spAreNums := by
  refine D.ok sc_are_numbers bd_are_numbers (fun vs H Q E h => ?len) (fun f cdv A outer s H vs Q E hr h => ?body)
  case len => obtain ⟨p, ss, rfl, _⟩ := h; rfl
  case body =>
    obtain ⟨p, ss, rfl, hp, hA, hl, k⟩ := h
    have hu := hr.units
    refine ⟨_, (pss_one (ps_ret (pe_callB (call_allK K) (by rfl) T.z_all bt_all (pa_cons (by exact pe_comp (N := ["word"]) (fr := [none]) ⟨by rfl, by decide +kernel, by decide +kernel, (show ∀ y ∈ (_ : List (Str × NameKind)), y.2 = NameKind.free → (defScope s_are_numbers).names.lookup y.1 = some .cell ∨ (defScope s_are_numbers).names.lookup y.1 = some .free by decide +kernel), (fr_none fr_nil)⟩ (by rfl) (pi_listK K (pv 0)) (fun _ _ _ _ => (pg_name (i := 0) (show List.Nodup (["word"] : List Str) by decide) (by rfl) (by first | exact Or.inl rfl | exact Or.inr rfl))) (fun _ _ _ _ => pifs_nil) (fun _ _ _ _ => (pe_callN C_is_number (hr.mono (by decide)) (by rfl) (pa_cons (pv 0) pa_nil))) (gw_name (by rfl))) pa_nil)))), ?_⟩
    dsimp only [tSeq, tAsg, gName, tOp, tUn, tTest, tB, tAnd, tOr, tNot, tAndV, tOrV, tNotV, tIf, tIfS, tRet, tRetN, tDrop, tNext, tCons, tNil, tCB, tCall, tMenu, tComp, tComp2, msk, List.zipWith, iZip2, iStr, iEnum, tNoIf, tTru, tJoin, cxOf_K, tLst, tTup, tSl, tPart, tNoPart, tBM, tBM0, tChain, tC, tFor_eq, gTup, gStar, gLst, gCons, gNil, gSub, iList, iRng1, iRng2, iRng3, iTup, tWhile, tRev, tRaise, tCallS, tTry, tAug, tPar, tNever, ipI, List.append_nil]
    try clear hu
    walk_at "st"
    refine ⟨⟨_, SqL.of hp⟩, cp_list (xs := ss.map V.str) (fun i ys H2 => ys = (((ss.take i).map fun s => decide (numW (sg s))).map V.bl) ∧ Same H H2) ⟨rfl, Same.refl _⟩ ?_ (szlt (by simp; omega)) ?_ ?_⟩
    · rintro i ys H2 ⟨rfl, s2⟩
      exact ⟨SqL.of (s2 _ _ hp), by simp; omega⟩
    · rintro i x ys H2 hx ⟨rfl, s2⟩
      rw [List.getElem?_map] at hx
      obtain ⟨z, hz, rfl⟩ := Option.map_eq_some_iff.mp hx
      walk_at "st"
      refine ⟨z, rfl, (hA z (List.mem_of_getElem? hz)).1, (hA z (List.mem_of_getElem? hz)).2, fun H3 s3 => ?_⟩
      refine ⟨?_, s2.trans s3⟩
      rw [take_snoc_get hz]
      simp
    rintro l ys H2 ⟨rfl, s2⟩ hl2
    rw [List.length_map, List.take_of_length_le (Nat.le_refl _)]
    refine i_all K (SqL.of upd_same) ?_
    have := k _ (s2.trans (same_upd (o := .lst ((ss.map fun s => decide (numW (sg s))).map V.bl)) hl2))
    rwa [show decide (∀ s ∈ ss, numW (sg s)) = ((ss.map fun s => decide (numW (sg s))).all id) from ?_] at this
    rw [Bool.eq_iff_iff, List.all_eq_true, decide_eq_true_iff]
    constructor
    · intro z b hb
      obtain ⟨c, hc, rfl⟩ := List.mem_map.mp hb
      exact decide_eq_true (z c hc)
    · intro z c hc
      exact of_decide_eq_true (z _ (List.mem_map.mpr ⟨c, hc, rfl⟩))
def spNumsOf : Sp := fun vs H Q _ => ∃ (p : Addr) (ss : List Str), vs = [.ref p] ∧ H p = some (.lst (ss.map V.str)) ∧ (∀ s ∈ ss, numW (sg s)) ∧ ss.length ≤ 20001 ∧ ∀ l H', NewI H H' l (ss.map valOf) → Q (.ref l) H'
theorem ok_numbers_of (T : Txt mg) (D : Def K mg "numbers_of" s_numbers_of) : Callee P w K mg base "numbers_of" 1 spNumsOf := by
  refine D.ok sc_numbers_of bd_numbers_of (fun vs H Q E h => ?len) (fun f cdv A outer s H vs Q E hr h => ?body)
  case len => obtain ⟨p, ss, rfl, _⟩ := h; rfl
  case body =>
    obtain ⟨p, ss, rfl, hp, hA, hl, k⟩ := h
    have hu := hr.units
    refine ⟨_, (pss_one (ps_ret (by exact pe_comp (N := ["word"]) (fr := [none]) ⟨by rfl, by decide +kernel, by decide +kernel, (show ∀ y ∈ (_ : List (Str × NameKind)), y.2 = NameKind.free → (defScope s_numbers_of).names.lookup y.1 = some .cell ∨ (defScope s_numbers_of).names.lookup y.1 = some .free by decide +kernel), (fr_none fr_nil)⟩ (by rfl) (pi_listK K (pv 0)) (fun _ _ _ _ => (pg_name (i := 0) (show List.Nodup (["word"] : List Str) by decide) (by rfl) (by first | exact Or.inl rfl | exact Or.inr rfl))) (fun _ _ _ _ => pifs_nil) (fun _ _ _ _ => (pe_callTy call_intQ (by rfl) T.z_int bt_int (pa_cons (pv 0) pa_nil))) (gw_name (by rfl))))), ?_⟩
    dsimp only [tSeq, tAsg, gName, tOp, tUn, tTest, tB, tAnd, tOr, tNot, tAndV, tOrV, tNotV, tIf, tIfS, tRet, tRetN, tDrop, tNext, tCons, tNil, tCB, tCall, tMenu, tComp, tComp2, msk, List.zipWith, iZip2, iStr, iEnum, tNoIf, tTru, tJoin, cxOf_K, tLst, tTup, tSl, tPart, tNoPart, tBM, tBM0, tChain, tC, tFor_eq, gTup, gStar, gLst, gCons, gNil, gSub, iList, iRng1, iRng2, iRng3, iTup, tWhile, tRev, tRaise, tCallS, tTry, tAug, tPar, tNever, ipI, List.append_nil]
    try clear hu
    walk_at "st"
    refine ⟨⟨_, SqL.of hp⟩, cp_list (xs := ss.map V.str) (fun i ys H2 => ys = iL ((ss.take i).map valOf) ∧ H = H2) ⟨rfl, rfl⟩ ?_ (szlt (by simp; omega)) ?_ ?_⟩
    · rintro i ys H2 ⟨rfl, rfl⟩
      exact ⟨SqL.of hp, by simp [iL]; omega⟩
    · rintro i x ys H2 hx ⟨rfl, rfl⟩
      rw [List.getElem?_map] at hx
      obtain ⟨z, hz, rfl⟩ := Option.map_eq_some_iff.mp hx
      have hw := hA z (List.mem_of_getElem? hz)
      obtain ⟨n, hn, _⟩ := num_word hw
      have hzl : z.length ≤ 41 := by
        rw [← sg_len]
        have := hw.2.1
        unfold figs at this
        split at this
        · rw [List.length_tail] at this
          omega
        · omega
      walk_at "st"
      refine .inr ⟨z, n, rfl, hn, by omega, ?_⟩
      refine ⟨?_, rfl⟩
      rw [take_snoc_get hz]
      simp [iL, valOf, hn]
    rintro l ys H2 ⟨rfl, rfl⟩ hl2
    rw [List.length_map, List.take_of_length_le (Nat.le_refl _)]
    exact k l _ ⟨hl2, same_upd hl2, upd_same⟩
def spWritten (K : PySem.W.Frag) : Sp := fun vs H Q _ => ∃ (p : Addr) (ns : List Int), vs = [.ref p] ∧ SqL K H p (iL ns) ∧ (∀ n ∈ ns, Small n) ∧ ns.length ≤ 1000 ∧ ∀ H', Same H H' → Q (.str (Str.join ⟨#[32]⟩ (ns.map tx))) H'
theorem ok_written (T : Txt mg) (D : Def K mg "written" s_written) : Callee P w K mg base "written" 1 (spWritten K) := by
  refine D.ok sc_written bd_written (fun vs H Q E h => ?len) (fun f cdv A outer s H vs Q E hr h => ?body)
  case len => obtain ⟨p, ns, rfl, _⟩ := h; rfl
  case body =>
    obtain ⟨p, ns, rfl, hp, hA, hl, k⟩ := h
    have hu := hr.units
    refine ⟨_, (pss_one (ps_ret (pe_bmK K PySem.F.plainAttrs_str PySem.F.slot_str_join PySem.F.type_str_join (mt_joinK K) pe_str (pa_cons (by exact pe_comp (N := ["number"]) (fr := [none]) ⟨by rfl, by decide +kernel, by decide +kernel, (show ∀ y ∈ (_ : List (Str × NameKind)), y.2 = NameKind.free → (defScope s_written).names.lookup y.1 = some .cell ∨ (defScope s_written).names.lookup y.1 = some .free by decide +kernel), (fr_none fr_nil)⟩ (by rfl) (pi_listK K (pv 0)) (fun _ _ _ _ => (pg_name (i := 0) (show List.Nodup (["number"] : List Str) by decide) (by rfl) (by first | exact Or.inl rfl | exact Or.inr rfl))) (fun _ _ _ _ => pifs_nil) (fun _ _ _ _ => (pe_callTy call_str_int (by rfl) T.z_str bt_str (pa_cons (pv 0) pa_nil))) (gw_name (by rfl))) pa_nil)))), ?_⟩
    dsimp only [tSeq, tAsg, gName, tOp, tUn, tTest, tB, tAnd, tOr, tNot, tAndV, tOrV, tNotV, tIf, tIfS, tRet, tRetN, tDrop, tNext, tCons, tNil, tCB, tCall, tMenu, tComp, tComp2, msk, List.zipWith, iZip2, iStr, iEnum, tNoIf, tTru, tJoin, cxOf_K, tLst, tTup, tSl, tPart, tNoPart, tBM, tBM0, tChain, tC, tFor_eq, gTup, gStar, gLst, gCons, gNil, gSub, iList, iRng1, iRng2, iRng3, iTup, tWhile, tRev, tRaise, tCallS, tTry, tAug, tPar, tNever, ipI, List.append_nil]
    try clear hu
    walk_at "st"
    refine ⟨rfl, ?_⟩
    walk_at "st"
    refine ⟨⟨_, hp⟩, cp_list (xs := iL ns) (fun i ys H2 => ys = ((ns.take i).map tx).map V.str ∧ H = H2) ⟨rfl, rfl⟩ ?_ (szlt (by simp [iL]; omega)) ?_ ?_⟩
    · rintro i ys H2 ⟨rfl, rfl⟩
      exact ⟨hp, by simp; omega⟩
    · rintro i x ys H2 hx ⟨rfl, rfl⟩
      unfold iL at hx
      rw [List.getElem?_map] at hx
      obtain ⟨z, hz, rfl⟩ := Option.map_eq_some_iff.mp hx
      walk_at "st"
      refine ⟨small_log (hA z (List.mem_of_getElem? hz)), ?_⟩
      refine ⟨?_, rfl⟩
      rw [take_snoc_get hz, List.map_append, List.map_append]
      rfl
    rintro l ys H2 ⟨rfl, rfl⟩ hl2
    rw [show (iL ns).length = ns.length by simp [iL], List.take_of_length_le (Nat.le_refl _)]
    have hw := words_len hA
    refine ⟨_, l, ns.map tx, rfl, rfl, SqL.of upd_same, ?_, ?_⟩
    · show _ + _ * 1 ≤ _
      rw [List.length_map]
      omega
    exact k _ (same_upd hl2)

--SPLIT
def spNB (CX : Addr) : Sp := fun vs H Q E => ∃ (name row : Str) (least : Nat), vs = [.str name, .int least, .str row] ∧ Asc name ∧ Asc row ∧ row.length ≤ 20000 ∧ (∀ ns, nums? name least row = some ns → ∀ l H', NewI H H' l ns → Q (.ref l) H') ∧ (nums? name least row = none → ∀ H', Same H H' → E (.ref CX) none H')
theorem ok_numbers_behind (T : Txt mg) (Z : Cls K mg) (D : Def K mg "numbers_behind" s_numbers_behind) (C_are_numbers : Callee P w K mg base "are_numbers" 2 spAreNums) (C_numbers_of : Callee P w K mg base "numbers_of" 1 spNumsOf) : CalleeE P w K mg base "numbers_behind" 3 (spNB Z.c_NoText) := by
  refine Def.okE D sc_numbers_behind bd_numbers_behind (fun vs H Q E h => ?len) (fun f cdv A outer s H vs Q E hr h => ?body)
  case len => obtain ⟨name, row, least, rfl, _⟩ := h; rfl
  case body =>
    obtain ⟨name, row, least, rfl, hN, hA, hl, k, kx⟩ := h
    have hu := hr.units
    refine ⟨_, (pss_cons (ps_asg (pe_bmK K PySem.F.plainAttrs_str PySem.F.slot_str_split PySem.F.type_str_split mt_split (pv 2) (pa_cons pe_str pa_nil)) (pg_starK K 1 (pgs_cons (pg_name (i := 3) sc_numbers_behind.nd rfl (Or.inl rfl)) (pgs_star (pg_name (i := 4) sc_numbers_behind.nd rfl (Or.inl rfl)) pgs_nil))))
 (pss_cons (ps_if (PW.pt (pw_or (pt_cmpR (op_neK K hu) (pv 3) (pv 0) (nomark _)) (pw_or (pt_cmpR op_lt (pe_callB (call_lenK K) (by rfl) T.z_len bt_len (pa_cons (pv 4) pa_nil)) (pv 1) (nomark _)) (pw_or1 (pt_not (pt_truthK K (pe_callN C_are_numbers (hr.mono (by decide)) (by rfl) (pa_cons (pv 4) pa_nil))))))))
 (pss_one (ps_raise Z.exc_NoText PySem.F.excBase_ValueError (by rfl) (pa_cons pe_str pa_nil)))
 pss_nil)
 (pss_one (ps_ret (pe_callN C_numbers_of (hr.mono (by decide)) (by rfl) (pa_cons (pv 4) pa_nil)))))), ?_⟩
    dsimp only [tSeq, tAsg, gName, tOp, tUn, tTest, tB, tAnd, tOr, tNot, tAndV, tOrV, tNotV, tIf, tIfS, tRet, tRetN, tDrop, tNext, tCons, tNil, tCB, tCall, tMenu, tComp, tComp2, msk, List.zipWith, iZip2, iStr, iEnum, tNoIf, tTru, tJoin, cxOf_K, tLst, tTup, tSl, tPart, tNoPart, tBM, tBM0, tChain, tC, tFor_eq, gTup, gStar, gLst, gCons, gNil, gSub, iList, iRng1, iRng2, iRng3, iTup, tWhile, tRev, tRaise, tCallS, tTry, tAug, tPar, tNever, ipI, List.append_nil]
    try clear hu
    walk_at "st"
    have hP := split_ok row 32
    refine ⟨rfl, row, ⟨#[32]⟩, rfl, rfl, rfl, by omega, ?_, fun l1 h1 => ?_⟩
    · have := hP.sum
      omega
    have hnu : ∀ a r, Txt.split row ⟨#[32]⟩ = a :: r → nums? name least row = if a = name ∧ least ≤ r.length ∧ ∀ p ∈ r, numW (sg p) then some (r.map valOf) else none := fun a r e => by
      unfold nums?
      rw [e]
    have hPs := hP.sum
    have hPa := hP.asc hA
    have hPl := hP.len
    cases hsp : Txt.split row ⟨#[32]⟩ with
    | nil => exact absurd hsp hP.ne
    | cons a r =>
    rw [hsp] at hPs hPa hPl
    replace hnu := hnu a r hsp
    have e1 : upd H l1 (.lst ((a :: r).map V.str)) l1 = some (.lst ((a :: r).map V.str)) := upd_same
    have s1 : Same H _ := same_upd (o := .lst ((a :: r).map V.str)) h1
    generalize upd H l1 (.lst ((a :: r).map V.str)) = H1 at *
    refine ⟨l1, _, rfl, SqL.of e1, by simp, fun l2 h2 => ?_⟩
    refine ⟨_, _, rfl, _, _, rfl, rfl, ?_⟩
    have e2 : upd H1 l2 (.lst (((a :: r).map V.str).drop 1)) l2 = some (.lst (r.map V.str)) := by rw [upd_same]; rfl
    have s2 : Same H _ := s1.trans (same_upd (o := .lst (((a :: r).map V.str).drop 1)) h2)
    generalize upd H1 l2 (.lst (((a :: r).map V.str).drop 1)) = H2 at *
    simp only [List.map_cons, List.sum_cons, List.length_cons] at hPs
    have hno : ∀ H', Same H2 H' → ¬ (a = name ∧ least ≤ r.length ∧ ∀ p ∈ r, numW (sg p)) → E (.ref Z.c_NoText) none H' := fun H' s' hn => kx (by rw [hnu, if_neg hn]) _ (s2.trans s')
    walk_at "st"
    refine i_neS (hPa a (by simp)).ok hN.ok ?_
    walk_at "st"
    by_cases hn : a = name
    rotate_left
    · refine ifT (by simpa using hn) ?_
      walk_at "st"
      exact ⟨by simp, hno _ (Same.refl _) fun z => hn z.1⟩
    refine ifF (by simpa using hn) ?_
    walk_at "st"
    refine i_len (SqL.of e2) ?_
    rw [List.length_map]
    walk_at "st"
    refine i_if (fun g => ?_) (fun g => ?_)
    · walk_at "st"
      exact ⟨by simp, hno _ (Same.refl _) fun z => by have := z.2.1; omega⟩
    walk_at "st"
    refine ⟨l2, r, rfl, e2, fun q hq => ⟨hPa q (by simp [hq]), Nat.le_trans (hPl q (by simp [hq])) hl⟩, by omega, fun H3 s3 => ?_⟩
    walk_at "st"
    by_cases hw : ∀ p ∈ r, numW (sg p)
    · refine ifF (by rw [decide_eq_true hw]; rfl) ?_
      walk_at "st"
      refine ⟨l2, r, rfl, s3 _ _ e2, hw, by omega, fun l4 H4 N4 => ?_⟩
      have S3 := s2.trans s3
      exact k _ (by rw [hnu, if_pos ⟨hn, by omega, hw⟩]) l4 H4 ⟨S3.free N4.fr, S3.trans N4.sm, N4.at_⟩
    · refine ifT (by rw [decide_eq_false hw]; rfl) ?_
      walk_at "st"
      exact ⟨by simp, hno _ s3 fun z => hw z.2.2⟩

--SPLIT
def spRead (CT CS CX : Addr) : Sp := fun vs H Q E => ∃ (text : Str), vs = [.str text] ∧ Asc text ∧ text.length ≤ 20000 ∧ (meant? text = none → ∀ H', Same H H' → E (.ref CX) none H') ∧
  ∀ ps hd ws, meant? text = some (ps, hd, ws) → (isTr ps → stand ps hd ws → ∀ t lp lw H', Same H H' → H' t = some (.tup [.ref lp, .int hd, .ref lw]) → H' lp = some (.lst (iL ps)) → H' lw = some (.lst (iL ws)) → Q (.ref t) H') ∧ Exs E H CT CS (isTr ps) (stand ps hd ws)
theorem ok_read (T : Txt mg) (Z : Cls K mg) (D : Def K mg "read" s_read) (C_numbers_behind : CalleeE P w K mg base "numbers_behind" 3 (spNB Z.c_NoText)) (C_refuse_no_stand : CalleeE P w K mg base "refuse_no_stand" 4 (spRefStandE K Z.c_NoTrain Z.c_NoStand)) : CalleeE P w K mg base "read" 5 (spRead Z.c_NoTrain Z.c_NoStand Z.c_NoText) := by
  refine Def.okE D sc_read bd_read (fun vs H Q E h => ?len) (fun f cdv A outer s H vs Q E hr h => ?body)
  case len => obtain ⟨text, rfl, _⟩ := h; rfl
  case body =>
    obtain ⟨text, rfl, hA, hl, kx, k⟩ := h
    have hu := hr.units
    refine ⟨_, (pss_cons (ps_set (i := 1) sc_read.nd rfl (Or.inl rfl) (pe_bmK K PySem.F.plainAttrs_str PySem.F.slot_str_split PySem.F.type_str_split mt_split (pv 0) (pa_cons pe_str pa_nil)))
 (pss_cons (ps_if (pt_cmpR (op_neK K hu) (pe_callB (call_lenK K) (by rfl) T.z_len bt_len (pa_cons (pv 1) pa_nil)) pe_int (nomark _))
 (pss_one (ps_raise Z.exc_NoText PySem.F.excBase_ValueError (by rfl) (pa_cons pe_str pa_nil)))
 pss_nil)
 (pss_cons (ps_set (i := 2) sc_read.nd rfl (Or.inl rfl) (pe_callE C_numbers_behind (hr.mono (by decide)) (by rfl) (pa_cons pe_str (pa_cons pe_int (pa_cons (pe_ix (ix_Q (K := K)) (pv 1) pe_int (by exact fun _ _ => rfl)) pa_nil)))))
 (pss_cons (ps_asg (pe_callE C_numbers_behind (hr.mono (by decide)) (by rfl) (pa_cons pe_str (pa_cons pe_int (pa_cons (pe_ix (ix_Q (K := K)) (pv 1) pe_int (by exact fun _ _ => rfl)) pa_nil)))) (pg_starK K 1 (pgs_cons (pg_name (i := 3) sc_read.nd rfl (Or.inl rfl)) (pgs_star (pg_name (i := 4) sc_read.nd rfl (Or.inl rfl)) pgs_nil))))
 (pss_cons (ps_expr (pe_callE C_refuse_no_stand (hr.mono (by decide)) (by rfl) (pa_cons (pv 2) (pa_cons (pv 3) (pa_cons (pv 4) pa_nil)))))
 (pss_one (ps_ret (pe_tup (pa_cons (pv 2) (pa_cons (pv 3) (pa_cons (pv 4) pa_nil))))))))))), ?_⟩
    dsimp only [tSeq, tAsg, gName, tOp, tUn, tTest, tB, tAnd, tOr, tNot, tAndV, tOrV, tNotV, tIf, tIfS, tRet, tRetN, tDrop, tNext, tCons, tNil, tCB, tCall, tMenu, tComp, tComp2, msk, List.zipWith, iZip2, iStr, iEnum, tNoIf, tTru, tJoin, cxOf_K, tLst, tTup, tSl, tPart, tNoPart, tBM, tBM0, tChain, tC, tFor_eq, gTup, gStar, gLst, gCons, gNil, gSub, iList, iRng1, iRng2, iRng3, iTup, tWhile, tRev, tRaise, tCallS, tTry, tAug, tPar, tNever, ipI, List.append_nil]
    try clear hu
    walk_at "st"
    have hP := split_ok text 10
    refine ⟨rfl, text, ⟨#[10]⟩, rfl, rfl, rfl, by omega, ?_, fun l1 h1 => ?_⟩
    · have := hP.sum
      omega
    have hPs := hP.sum
    have hPa := hP.asc hA
    have hPl := hP.len
    generalize hsp : Txt.split text ⟨#[10]⟩ = rs at *
    have e1 : upd H l1 (.lst (rs.map V.str)) l1 = some (.lst (rs.map V.str)) := upd_same
    have s1 : Same H _ := same_upd (o := .lst (rs.map V.str)) h1
    generalize upd H l1 (.lst (rs.map V.str)) = H1 at *
    walk_at "st"
    refine i_len (SqL.of e1) ?_
    rw [List.length_map]
    walk_at "st"
    refine i_ifn (fun g => ?_) (fun g => ?_)
    · walk_at "st"
      refine ⟨by simp, kx ?_ _ s1⟩
      unfold meant?
      rw [hsp]
      split
      · simp at g
      · rfl
    obtain ⟨r0, r1, rfl⟩ : ∃ r0 r1, rs = [r0, r1] := by
      match rs, g with
      | [a, b], _ => exact ⟨a, b, rfl⟩
      | [], g => simp at g
      | [_], g => simp at g
      | _ :: _ :: _ :: r, g => simp at g; omega
    have hme : meant? text = two? (nums? "plays" 1 r0) (nums? "at" 2 r1) := by
      unfold meant?
      rw [hsp]
    walk_at "st"
    refine .inl (i_ixN (SqL.of e1) (by decide) rfl ?_)
    walk_at "st"
    refine ⟨"plays", r0, 1, rfl, by decide +kernel, hPa r0 (by simp), Nat.le_trans (hPl r0 (by simp)) hl, fun ps hps l2 H2 N2 => ?_, fun hn H2 s2 => ?_⟩
    rotate_left
    · exact kx (by rw [hme, hn]; rfl) _ (s1.trans s2)
    rw [hps] at hme
    have s2 := s1.trans N2.sm
    have e2 := N2.at_
    replace e1 := N2.sm _ _ e1
    clear N2
    walk_at "st"
    refine .inl (i_ixN (SqL.of e1) (by decide) rfl ?_)
    walk_at "st"
    refine ⟨"at", r1, 2, rfl, by decide +kernel, hPa r1 (by simp), Nat.le_trans (hPl r1 (by simp)) hl, fun ns hns l3 H3 N3 => ?_, fun hn H3 s3 => ?_⟩
    rotate_left
    · exact kx (by rw [hme, hn]; rfl) _ (s2.trans s3)
    rw [hns] at hme
    have hn2 := (nums_back hns (by decide)).2
    obtain ⟨hd, ws, rfl⟩ : ∃ hd ws, ns = hd :: ws := by
      cases ns with
      | nil => simp at hn2
      | cons a r => exact ⟨a, r, rfl⟩
    have s3 := s2.trans N3.sm
    have e3 := N3.at_
    replace e2 := N3.sm _ _ e2
    clear N3
    walk_at "st"
    refine ⟨l3, _, rfl, SqL.of e3, by simp [iL], fun l4 h4 => ⟨_, _, rfl, _, _, rfl, rfl, ?_⟩⟩
    have e4 : upd H3 l4 (.lst ((iL (hd :: ws)).drop 1)) l4 = some (.lst (iL ws)) := by rw [upd_same]; rfl
    have s4 : Same H3 _ := same_upd (o := .lst ((iL (hd :: ws)).drop 1)) h4
    generalize upd H3 l4 (.lst ((iL (hd :: ws)).drop 1)) = H4 at *
    obtain ⟨k, x⟩ := k ps hd ws hme
    walk_at "st"
    refine ⟨l2, l4, ps, ws, hd, rfl, SqL.of (s4 _ _ e2), SqL.of e4, fun ht hs H5 s5 => ?_, x.on (s3.trans s4)⟩
    walk_at "st"
    intro t6 h6
    exact k ht hs t6 l2 l4 _ (s3.trans (s4.trans (s5.trans (same_upd h6)))) upd_same (same_upd h6 _ _ (s5 _ _ (s4 _ _ e2))) (same_upd h6 _ _ (s5 _ _ e4))
def spShown (CT CS : Addr) : Sp := fun vs H Q E => ∃ (a b : Addr) (ps ws : List Int) (hd : Int), vs = [.ref a, .int hd, .ref b] ∧ H a = some (.lst (iL ps)) ∧ H b = some (.lst (iL ws)) ∧ Small hd ∧ (∀ n ∈ ps, Small n) ∧ (∀ n ∈ ws, Small n) ∧
  (isTr ps → stand ps hd ws → ∀ H', Same H H' → Q (.str (Str.join ⟨#[10]⟩ [("plays " : Str) ++ Str.join ⟨#[32]⟩ (ps.map tx), ("at " : Str) ++ Str.join ⟨#[32]⟩ ((hd :: ws).map tx)])) H') ∧ Exs E H CT CS (isTr ps) (stand ps hd ws)
theorem ok_shown (T : Txt mg) (Z : Cls K mg) (D : Def K mg "shown" s_shown) (C_refuse_no_stand : CalleeE P w K mg base "refuse_no_stand" 4 (spRefStandE K Z.c_NoTrain Z.c_NoStand)) (C_written : Callee P w K mg base "written" 1 (spWritten K)) : CalleeE P w K mg base "shown" 5 (spShown Z.c_NoTrain Z.c_NoStand) := by
  refine Def.okE D sc_shown bd_shown (fun vs H Q E h => ?len) (fun f cdv A outer s H vs Q E hr h => ?body)
  case len => obtain ⟨a, b, ps, ws, hd, rfl, _⟩ := h; rfl
  case body =>
    obtain ⟨a, b, ps, ws, hd, rfl, hA, hB, z1, z2, z3, k, x⟩ := h
    have hu := hr.units
    refine ⟨_, (pss_cons (ps_expr (pe_callE C_refuse_no_stand (hr.mono (by decide)) (by rfl) (pa_cons (pv 0) (pa_cons (pv 1) (pa_cons (pv 2) pa_nil)))))
 (pss_one (ps_ret (pe_bmK K PySem.F.plainAttrs_str PySem.F.slot_str_join PySem.F.type_str_join (mt_joinK K) pe_str (pa_cons (pe_lst (pa_cons (pe_op op_addQ pe_str (pe_callN C_written (hr.mono (by decide)) (by rfl) (pa_cons (pv 0) pa_nil))) (pa_cons (pe_op op_addQ pe_str (pe_callN C_written (hr.mono (by decide)) (by rfl) (pa_cons (pe_op op_addQ (pe_lst (pa_cons (pv 1) pa_nil)) (pv 2)) pa_nil))) pa_nil))) pa_nil))))), ?_⟩
    dsimp only [tSeq, tAsg, gName, tOp, tUn, tTest, tB, tAnd, tOr, tNot, tAndV, tOrV, tNotV, tIf, tIfS, tRet, tRetN, tDrop, tNext, tCons, tNil, tCB, tCall, tMenu, tComp, tComp2, msk, List.zipWith, iZip2, iStr, iEnum, tNoIf, tTru, tJoin, cxOf_K, tLst, tTup, tSl, tPart, tNoPart, tBM, tBM0, tChain, tC, tFor_eq, gTup, gStar, gLst, gCons, gNil, gSub, iList, iRng1, iRng2, iRng3, iTup, tWhile, tRev, tRaise, tCallS, tTry, tAug, tPar, tNever, ipI, List.append_nil]
    try clear hu
    walk_at "st"
    refine ⟨a, b, ps, ws, hd, rfl, SqL.of hA, SqL.of hB, fun ht hs H1 s1 => ?_, x⟩
    have h12 := ht.2.1
    have hwl := hs.1
    have hwp := words_len z2
    have hz4 : ∀ n ∈ hd :: ws, Small n := fun n hn => by
      rcases List.mem_cons.mp hn with rfl | hn
      · exact z1
      · exact z3 n hn
    have hww := words_len hz4
    have jl : ∀ ns : List Int, ((ns.map tx).map (·.length)).sum ≤ ns.length * 61 → ns.length ≤ 13 → (Str.join ⟨#[32]⟩ (ns.map tx)).length ≤ 1000 := fun ns h1 h2 => by
      cases ns with
      | nil => simp [Str.join]; decide
      | cons a r =>
        have := join_len ⟨#[32]⟩ (ss := (a :: r).map tx) (by simp)
        rw [show (⟨#[32]⟩ : Str).length = 1 from rfl, Nat.mul_one, List.length_map] at this
        omega
    have j1 := jl ps hwp (by omega)
    have j2 := jl (hd :: ws) hww (by simp; omega)
    walk_at "st"
    refine ⟨rfl, ?_⟩
    walk_at "st"
    refine ⟨a, ps, rfl, SqL.of (s1 _ _ hA), z2, by omega, fun H2 s2 => ?_⟩
    have S2 := s1.trans s2
    walk_at "st"
    refine i_addQS (by rw [show (Str.ofString "plays ").length = 6 from rfl]; omega) ?_
    walk_at "st"
    intro q3 h3
    walk_at "st"
    have s3 : Same H2 _ := same_upd (o := .lst [.int hd]) h3
    refine .inl (i_addL (xs := [.int hd]) (ys := iL ws) upd_same (s3 _ _ (S2 _ _ hB)) (szl (by simp [iL]; omega)) (fun q4 h4 => ?_))
    have s4 : Same H2 _ := s3.trans (same_upd (o := .lst ([.int hd] ++ iL ws)) h4)
    have e4 : upd (upd H2 q3 (.lst [.int hd])) q4 (.lst ([.int hd] ++ iL ws)) q4 = some (.lst (iL (hd :: ws))) := by rw [upd_same]; rfl
    generalize upd (upd H2 q3 (.lst [.int hd])) q4 (.lst ([.int hd] ++ iL ws)) = H4 at *
    walk_at "st"
    refine ⟨q4, hd :: ws, rfl, SqL.of e4, hz4, by simp; omega, fun H5 s5 => ?_⟩
    walk_at "st"
    refine i_addQS (by rw [show (Str.ofString "at ").length = 3 from rfl]; omega) ?_
    walk_at "st"
    intro q6 h6
    have l1 := app_len (Str.ofString "plays ") (Str.join ⟨#[32]⟩ (ps.map tx))
    have l2 := app_len (Str.ofString "at ") (Str.join ⟨#[32]⟩ ((hd :: ws).map tx))
    rw [show (Str.ofString "plays ").length = 6 from rfl] at l1
    rw [show (Str.ofString "at ").length = 3 from rfl] at l2
    refine ⟨⟨#[10]⟩, q6, [Str.ofString "plays " ++ Str.join ⟨#[32]⟩ (ps.map tx), Str.ofString "at " ++ Str.join ⟨#[32]⟩ ((hd :: ws).map tx)], rfl, rfl, SqL.of upd_same, ?_, ?_⟩
    · show (Str.ofString "plays " ++ Str.join ⟨#[32]⟩ (ps.map tx)).length + ((Str.ofString "at " ++ Str.join ⟨#[32]⟩ ((hd :: ws).map tx)).length + 0) + 2 * 1 ≤ _
      omega
    exact k ht hs _ (S2.trans (s4.trans (s5.trans (same_upd h6))))

--SPLIT
def numV (x : Str) : V := if numW (sg x) then .int (valOf x) else .non
def spLawNum : Sp := fun vs H Q _ => ∃ x, vs = [.str x] ∧ Asc x ∧ x.length ≤ 20000 ∧ Q (numV x) H
theorem ok_law_a_number (T : Txt mg) (D : Def K mg "_law_a_number" s_law_a_number) : Callee P w K mg base "_law_a_number" 1 spLawNum := by
  refine D.ok sc_law_a_number bd_law_a_number (fun vs H Q E h => ?len) (fun f cdv A outer s H vs Q E hr h => ?body)
  case len => obtain ⟨x, rfl, _⟩ := h; rfl
  case body =>
    obtain ⟨x, rfl, hA, hl, k⟩ := h
    have hu := hr.units
    refine ⟨_, (pss_cons (ps_set (i := 1) sc_law_a_number.nd rfl (Or.inl rfl) (pv 0))
 (pss_join (ps_if (pt_cmpR (op_eqK K hu) (pe_slice (sl_Q (K := K)) (pv 0) po_none (po_some pe_int)) pe_str (nomark _))
 (pss_one (ps_set (i := 1) sc_law_a_number.nd rfl (Or.inl rfl) (pe_slice (sl_Q (K := K)) (pv 0) (po_some pe_int) po_none)))
 pss_nil)
 (pss_cons (ps_if (PW.pt (pw_or (pt_cmpR (op_eqK K hu) (pv 1) pe_str (nomark _)) (pw_or (pt_cmpR op_gt (pe_callB (call_lenK K) (by rfl) T.z_len bt_len (pa_cons (pv 1) pa_nil)) pe_int (nomark _)) (pw_or1 (pt_cmpR (op_eqK K hu) (pv 0) pe_str (nomark _))))))
 (pss_one (ps_ret pe_non))
 pss_nil)
 (pss_join (ps_if (PW.pt (pw_and (pt_cmpR (op_eqK K hu) (pe_ix (ix_Q (K := K)) (pv 1) pe_int (by exact fun _ _ => rfl)) pe_str (nomark _)) (pw_and1 (pt_cmpR op_gt (pe_callB (call_lenK K) (by rfl) T.z_len bt_len (pa_cons (pv 1) pa_nil)) pe_int (nomark _)))))
 (pss_one (ps_ret pe_non))
 pss_nil)
 (pss_cons (ps_for PassesOwn.never rfl (pi_str (pv 1)) (pg_name (i := 2) sc_law_a_number.nd rfl (Or.inl rfl))
 (pss_one (ps_if (pt_cmpR (op_notInQ (K := K)) (pv 2) pe_str (by rfl))
 (pss_one (ps_ret pe_non))
 pss_nil)))
 (pss_one (ps_ret (pe_callTy call_intQ (by rfl) T.z_int bt_int (pa_cons (pv 0) pa_nil))))))))), ?_⟩
    dsimp only [tSeq, tAsg, gName, tOp, tUn, tTest, tB, tAnd, tOr, tNot, tAndV, tOrV, tNotV, tIf, tIfS, tRet, tRetN, tDrop, tNext, tCons, tNil, tCB, tCall, tMenu, tComp, tComp2, msk, List.zipWith, iZip2, iStr, iEnum, tNoIf, tTru, tJoin, cxOf_K, tLst, tTup, tSl, tPart, tNoPart, tBM, tBM0, tChain, tC, tFor_eq, gTup, gStar, gLst, gCons, gNil, gSub, iList, iRng1, iRng2, iRng3, iTup, tWhile, tRev, tRaise, tCallS, tTry, tAug, tPar, tNever, ipI, List.append_nil]
    try clear hu
    have no : ¬ numW (sg x) → Q .non H := fun z => by unfold numV at k; rwa [if_neg z] at k
    walk_at "st"
    refine ⟨fun σ H1 => ∃ f, σ = [some (.str x), some (.str f), none] ∧ sg f = figs (sg x) ∧ H = H1, ?_, ?_⟩
    · walk_at "st"
      refine i_slS (by omega) ?_
      have hsl : sg (Txt.slice x none (some 1)) = (sg x).take 1 := txt_to x (by decide)
      have hA1 : Asc (Txt.slice x none (some 1)) := fun c hc => by
        rw [hsl] at hc
        exact hA c (List.mem_of_mem_take hc)
      walk_at "st"
      refine i_eqS hA1.ok (by decide +kernel) ?_
      have hb : (Txt.slice x none (some 1) == Str.ofString "-") = decide ((sg x).head? = some 45) := by
        rw [Bool.eq_iff_iff, beq_iff_eq, decide_eq_true_iff]
        constructor
        · intro z
          rw [z] at hsl
          cases e : sg x with
          | nil => rw [e] at hsl; cases hsl
          | cons c r =>
            rw [e] at hsl
            have : [45] = [c] := hsl
            simp at this
            simp [this]
        · intro z
          refine sg_ext ?_
          rw [hsl]
          cases e : sg x with
          | nil => rw [e] at z; cases z
          | cons c r =>
            rw [e] at z
            simp at z
            rw [z]
            rfl
      rw [hb]
      walk_at "st"
      by_cases hm : (sg x).head? = some 45
      · refine ifT (decide_eq_true hm) ?_
        walk_at "st"
        refine i_slS (by omega) ?_
        refine ⟨_, rfl, ?_, rfl⟩
        rw [txt_from x (by decide)]
        unfold figs
        rw [if_pos hm]
        simp
      · refine ifF (decide_eq_false hm) ?_
        walk_at "st"
        refine ⟨?_, rfl⟩
        unfold figs
        rw [if_neg hm]
    rintro σ H1 ⟨f, rfl, hf, rfl⟩
    have hfl : f.length = (figs (sg x)).length := by rw [← hf, sg_len]
    have hfx := figs_len (sg x)
    rw [sg_len] at hfx
    have hfA : Asc f := fun c hc => hA c (by
      rw [hf] at hc
      unfold figs at hc
      split at hc
      · exact List.mem_of_mem_tail hc
      · exact hc)
    walk_at "st"
    refine i_eqS hfA.ok (by decide +kernel) ?_
    walk_at "st"
    by_cases h0 : f = Str.ofString ""
    · refine ifT (by simp [h0]) ?_
      walk_at "st"
      refine no fun z => ?_
      have := z.1
      rw [← hf, h0] at this
      simp at this
      exact absurd this (by decide)
    refine ifF (by simpa using h0) ?_
    obtain ⟨c0, r, hc0⟩ : ∃ c r, sg f = c :: r := by
      cases e : sg f with
      | nil => exact absurd (sg_ext e) h0
      | cons c r => exact ⟨c, r, rfl⟩
    walk_at "st"
    refine i_lenS (by omega) ?_
    walk_at "st"
    refine i_if (fun g => ?_) (fun g => ?_)
    · walk_at "st"
      exact no fun z => by have := z.2.1; omega
    walk_at "st"
    refine i_eqS hA.ok (by decide +kernel) ?_
    walk_at "st"
    by_cases hm0 : x = Str.ofString "-0"
    · refine ifT (by simp [hm0]) ?_
      walk_at "st"
      exact no fun z => by rw [hm0] at z; exact absurd z (by decide +kernel)
    refine ifF (by simpa using hm0) ?_
    walk_at "st"
    refine ⟨fun σ H1 => σ = [some (.str x), some (.str f), none] ∧ H = H1 ∧ (c0 ≠ 48 ∨ f.length = 1), ?_, ?_⟩
    · walk_at "st"
      refine i_ixS (by omega) (by decide) (c := c0) (by show (sg f)[0]? = _; rw [hc0]; rfl) ?_
      have hc1 : Asc ⟨#[c0]⟩ := fun c hc => hfA c (by rw [hc0]; simp at hc ⊢; exact .inl hc)
      walk_at "st"
      refine i_eqS hc1.ok (by decide +kernel) ?_
      have hz : ((⟨#[c0]⟩ : Str) == Str.ofString "0") = decide (c0 = 48) := by
        rw [Bool.eq_iff_iff, beq_iff_eq, decide_eq_true_iff]
        constructor
        · intro z
          have : [c0] = [48] := congrArg sg z
          simpa using this
        · rintro rfl
          rfl
      rw [hz]
      walk_at "st"
      refine i_if (fun g8 => ?_) (fun g8 => ?_)
      · walk_at "st"
        refine i_lenS (by omega) ?_
        walk_at "st"
        refine i_if (fun g9 => ?_) (fun g9 => ?_)
        · refine no fun z => ?_
          obtain ⟨_, _, _, z | z⟩ := z
          · rw [← hf, hc0, g8] at z
            exact z rfl
          · rw [z] at hf
            have : f.length = 1 := by rw [← sg_len, hf]; rfl
            omega
        · have hl1 : 1 ≤ f.length := by
            rw [← sg_len, hc0]
            simp
          exact ⟨rfl, rfl, .inr (by omega)⟩
      · walk_at "st"
        exact ⟨rfl, rfl, .inl g8⟩
    rintro σ H1 ⟨rfl, rfl, hlead⟩
    have hdig : ∀ c, c ∈ sg (Str.ofString "0123456789") ↔ 48 ≤ c ∧ c ≤ 57 := fun c => by
      show c ∈ [48, 49, 50, 51, 52, 53, 54, 55, 56, 57] ↔ _
      simp
      omega
    walk_at "st"
    refine ⟨hfA.all, lp_str (fun i σ H1 => ∃ u, σ = [some (.str x), some (.str f), u] ∧ H = H1 ∧ ∀ c ∈ (sg f).take i, 48 ≤ c ∧ c ≤ 57) ?_ ?_ ?_⟩
    · exact ⟨_, rfl, rfl, fun c hc => by simp at hc⟩
    · rintro i c σ H1 hc ⟨u, rfl, rfl, hin⟩
      walk_at "st"
      refine i_notInC ?_
      walk_at "st"
      refine i_ifn (fun g9 => ?_) (fun g9 => ?_)
      · walk_at "st"
        refine no fun z => g9 ((hdig c).mpr (z.2.2.1 c ?_))
        rw [← hf]
        exact List.mem_of_getElem? hc
      · walk_at "st"
        refine ⟨rfl, fun d hd => ?_⟩
        rw [take_snoc_get hc] at hd
        rcases List.mem_append.mp hd with z | z
        · exact hin d z
        · have : d = c := by simpa using z
          rw [this]
          exact (hdig c).mp g9
    · rintro σ H1 ⟨u, rfl, rfl, hin⟩
      rw [← sg_len, List.take_of_length_le (Nat.le_refl _), hf] at hin
      have hnum : numW (sg x) := by
        refine ⟨by rw [← hf, hc0]; simp, by omega, hin, ?_⟩
        by_cases h48 : c0 = 48
        · right
          have hl1 : f.length = 1 := by
            rcases hlead with z | z
            · exact absurd h48 z
            · exact z
          have hf0 : sg f = [48] := by
            rw [← sg_len, hc0] at hl1
            simp at hl1
            rw [hc0, hl1, h48]
          rw [hf0] at hf
          unfold figs at hf
          split at hf
          · rename_i hm
            exfalso
            cases e : sg x with
            | nil => rw [e] at hm; cases hm
            | cons c1 r1 =>
              rw [e] at hm hf
              simp at hm hf
              exact hm0 (sg_ext (by rw [e, hm, ← hf]; rfl))
          · exact hf.symm
        · left
          rw [← hf, hc0]
          simpa using h48
      obtain ⟨n, hn, _⟩ := num_word hnum
      walk_at "st"
      refine .inr ⟨x, n, rfl, hn, ?_, ?_⟩
      · have := hnum.2.1
        unfold figs at this
        rw [← sg_len]
        split at this
        · rw [List.length_tail] at this
          omega
        · omega
      · unfold numV valOf at k
        rwa [if_pos hnum, hn] at k

--SPLIT
theorem ok_law_a_words (T : Txt mg) (D : Def K mg "_law_a_words" s_law_a_words) : Callee P w K mg base "_law_a_words" 1 (spWritten K) := by
  refine D.ok sc_law_a_words bd_law_a_words (fun vs H Q E h => ?len) (fun f cdv A outer s H vs Q E hr h => ?body)
  case len => obtain ⟨p, ns, rfl, _⟩ := h; rfl
  case body =>
    obtain ⟨p, ns, rfl, hp, hA, hl, k⟩ := h
    have hu := hr.units
    refine ⟨_, (pss_one (ps_ret (pe_bmK K PySem.F.plainAttrs_str PySem.F.slot_str_join PySem.F.type_str_join (mt_joinK K) pe_str (pa_cons (by exact pe_comp (N := ["number"]) (fr := [none]) ⟨by rfl, by decide +kernel, by decide +kernel, (show ∀ y ∈ (_ : List (Str × NameKind)), y.2 = NameKind.free → (defScope s_law_a_words).names.lookup y.1 = some .cell ∨ (defScope s_law_a_words).names.lookup y.1 = some .free by decide +kernel), (fr_none fr_nil)⟩ (by rfl) (pi_listK K (pv 0)) (fun _ _ _ _ => (pg_name (i := 0) (show List.Nodup (["number"] : List Str) by decide) (by rfl) (by first | exact Or.inl rfl | exact Or.inr rfl))) (fun _ _ _ _ => pifs_nil) (fun _ _ _ _ => (pe_callTy call_str_int (by rfl) T.z_str bt_str (pa_cons (pv 0) pa_nil))) (gw_name (by rfl))) pa_nil)))), ?_⟩
    dsimp only [tSeq, tAsg, gName, tOp, tUn, tTest, tB, tAnd, tOr, tNot, tAndV, tOrV, tNotV, tIf, tIfS, tRet, tRetN, tDrop, tNext, tCons, tNil, tCB, tCall, tMenu, tComp, tComp2, msk, List.zipWith, iZip2, iStr, iEnum, tNoIf, tTru, tJoin, cxOf_K, tLst, tTup, tSl, tPart, tNoPart, tBM, tBM0, tChain, tC, tFor_eq, gTup, gStar, gLst, gCons, gNil, gSub, iList, iRng1, iRng2, iRng3, iTup, tWhile, tRev, tRaise, tCallS, tTry, tAug, tPar, tNever, ipI, List.append_nil]
    try clear hu
    walk_at "st"
    refine ⟨rfl, ?_⟩
    walk_at "st"
    refine ⟨⟨_, hp⟩, cp_list (xs := iL ns) (fun i ys H2 => ys = ((ns.take i).map tx).map V.str ∧ H = H2) ⟨rfl, rfl⟩ ?_ (szlt (by simp [iL]; omega)) ?_ ?_⟩
    · rintro i ys H2 ⟨rfl, rfl⟩
      exact ⟨hp, by simp; omega⟩
    · rintro i x ys H2 hx ⟨rfl, rfl⟩
      unfold iL at hx
      rw [List.getElem?_map] at hx
      obtain ⟨z, hz, rfl⟩ := Option.map_eq_some_iff.mp hx
      walk_at "st"
      refine ⟨small_log (hA z (List.mem_of_getElem? hz)), ?_⟩
      refine ⟨?_, rfl⟩
      rw [take_snoc_get hz, List.map_append, List.map_append]
      rfl
    rintro l ys H2 ⟨rfl, rfl⟩ hl2
    rw [show (iL ns).length = ns.length by simp [iL], List.take_of_length_le (Nat.le_refl _)]
    have hw := words_len hA
    refine ⟨_, l, ns.map tx, rfl, rfl, SqL.of upd_same, ?_, ?_⟩
    · show _ + _ * 1 ≤ _
      rw [List.length_map]
      omega
    exact k _ (same_upd hl2)
theorem inV_non : ∀ ss : List Str, inV .non (ss.map numV) = decide (¬ ∀ s ∈ ss, numW (sg s))
  | [] => by simp [inV]
  | a :: r => by
    have ih := inV_non r
    unfold inV at ih ⊢
    rw [List.map_cons, List.any_cons, ih]
    by_cases h : numW (sg a)
    · have : numV a = .int (valOf a) := if_pos h
      rw [this]
      simp [h, eqV]
    · have : numV a = .non := if_neg h
      rw [this]
      simp [h, eqV]
def spLawNums : Sp := fun vs H Q _ => ∃ (name row : Str) (least : Nat), vs = [.str row, .str name, .int least] ∧ Asc name ∧ Asc row ∧ row.length ≤ 20000 ∧ 1 ≤ least ∧ (∀ ns, nums? name least row = some ns → ∀ l H', NewI H H' l ns → Q (.ref l) H') ∧ (nums? name least row = none → ∀ H', Same H H' → Q .non H')
theorem ok_law_a_numbers (T : Txt mg) (D : Def K mg "_law_a_numbers" s_law_a_numbers) (C_law_a_number : Callee P w K mg base "_law_a_number" 1 spLawNum) : Callee P w K mg base "_law_a_numbers" 2 spLawNums := by
  refine D.ok sc_law_a_numbers bd_law_a_numbers (fun vs H Q E h => ?len) (fun f cdv A outer s H vs Q E hr h => ?body)
  case len => obtain ⟨name, row, least, rfl, _⟩ := h; rfl
  case body =>
    obtain ⟨name, row, least, rfl, hN, hA, hl, hle, k, kx⟩ := h
    have hu := hr.units
    refine ⟨_, (pss_cons (ps_set (i := 3) sc_law_a_numbers.nd rfl (Or.inl rfl) (pe_bmK K PySem.F.plainAttrs_str PySem.F.slot_str_split PySem.F.type_str_split mt_split (pv 0) (pa_cons pe_str pa_nil)))
 (pss_cons (ps_if (PW.pt (pw_or (pt_cmpR (op_neK K hu) (pe_ix (ix_K K) (pv 3) pe_int (by exact fun _ _ => rfl)) (pv 1) (nomark _)) (pw_or1 (pt_cmpR op_le (pe_callB (call_lenK K) (by rfl) T.z_len bt_len (pa_cons (pv 3) pa_nil)) (pv 2) (nomark _)))))
 (pss_one (ps_ret pe_non))
 pss_nil)
 (pss_cons (by exact ps_setC (i := 4) sc_law_a_numbers.nd rfl (Or.inl rfl) (N := ["word"]) (fr := [none]) ⟨by rfl, by decide +kernel, by decide +kernel, (show ∀ y ∈ (_ : List (Str × NameKind)), y.2 = NameKind.free → (defScope s_law_a_numbers).names.lookup y.1 = some .cell ∨ (defScope s_law_a_numbers).names.lookup y.1 = some .free by decide +kernel), (fr_none fr_nil)⟩ (by rfl) (pi_listK K (pe_slice (sl_listK K) (pv 3) (po_some pe_int) po_none)) (fun _ _ _ _ => (pg_name (i := 0) (show List.Nodup (["word"] : List Str) by decide) (by rfl) (by first | exact Or.inl rfl | exact Or.inr rfl))) (fun _ _ _ _ => pifs_nil) (fun _ _ _ _ => (pe_callN C_law_a_number (hr.mono (by decide)) (by rfl) (pa_cons (pv 0) pa_nil))) (gw_name (by rfl)))
 (pss_cons (ps_if (pt_cmpR (op_inK K) pe_non (pv 4) (by rfl))
 (pss_one (ps_ret pe_non))
 pss_nil)
 (pss_one (ps_ret (pv 4))))))), ?_⟩
    dsimp only [tSeq, tAsg, gName, tOp, tUn, tTest, tB, tAnd, tOr, tNot, tAndV, tOrV, tNotV, tIf, tIfS, tRet, tRetN, tDrop, tNext, tCons, tNil, tCB, tCall, tMenu, tComp, tComp2, msk, List.zipWith, iZip2, iStr, iEnum, tNoIf, tTru, tJoin, cxOf_K, tLst, tTup, tSl, tPart, tNoPart, tBM, tBM0, tChain, tC, tFor_eq, gTup, gStar, gLst, gCons, gNil, gSub, iList, iRng1, iRng2, iRng3, iTup, tWhile, tRev, tRaise, tCallS, tTry, tAug, tPar, tNever, ipI, List.append_nil]
    try clear hu
    walk_at "st"
    have hP := split_ok row 32
    refine ⟨rfl, row, ⟨#[32]⟩, rfl, rfl, rfl, by omega, ?_, fun l1 h1 => ?_⟩
    · have := hP.sum
      omega
    have hnu : ∀ a r, Txt.split row ⟨#[32]⟩ = a :: r → nums? name least row = if a = name ∧ least ≤ r.length ∧ ∀ p ∈ r, numW (sg p) then some (r.map valOf) else none := fun a r e => by
      unfold nums?
      rw [e]
    have hPs := hP.sum
    have hPa := hP.asc hA
    have hPl := hP.len
    cases hsp : Txt.split row ⟨#[32]⟩ with
    | nil => exact absurd hsp hP.ne
    | cons a r =>
    rw [hsp] at hPs hPa hPl
    replace hnu := hnu a r hsp
    have e1 : upd H l1 (.lst ((a :: r).map V.str)) l1 = some (.lst ((a :: r).map V.str)) := upd_same
    have s1 : Same H _ := same_upd (o := .lst ((a :: r).map V.str)) h1
    generalize upd H l1 (.lst ((a :: r).map V.str)) = H1 at *
    simp only [List.map_cons, List.sum_cons, List.length_cons] at hPs
    have hno : ∀ H', Same H1 H' → ¬ (a = name ∧ least ≤ r.length ∧ ∀ p ∈ r, numW (sg p)) → Q .non H' := fun H' s' hn => kx (by rw [hnu, if_neg hn]) _ (s1.trans s')
    walk_at "st"
    refine i_ixN (SqL.of e1) (by decide) rfl ?_
    walk_at "st"
    refine i_neS (hPa a (by simp)).ok hN.ok ?_
    walk_at "st"
    by_cases hn : a = name
    rotate_left
    · refine ifT (by simpa using hn) ?_
      walk_at "st"
      exact hno _ (Same.refl _) fun z => hn z.1
    refine ifF (by simpa using hn) ?_
    walk_at "st"
    refine i_len (SqL.of e1) ?_
    rw [List.length_map, List.length_cons]
    walk_at "st"
    refine i_if (fun g => ?_) (fun g => ?_)
    · walk_at "st"
      exact hno _ (Same.refl _) fun z => by have := z.2.1; omega
    walk_at "st"
    refine ⟨l1, _, rfl, SqL.of e1, fun l2 h2 => ?_⟩
    have hcut : cutV ((a :: r).map V.str) (some 1) none = r.map V.str := by
      rw [cut_from (by decide)]
      rfl
    rw [hcut]
    have e2 : upd H1 l2 (.lst (r.map V.str)) l2 = some (.lst (r.map V.str)) := upd_same
    have s2 : Same H1 _ := same_upd (o := .lst (r.map V.str)) h2
    generalize upd H1 l2 (.lst (r.map V.str)) = H2 at *
    refine ⟨_, rfl, ⟨_, SqL.of e2⟩, cp_list (xs := r.map V.str) (fun i ys H3 => ys = (r.take i).map numV ∧ H2 = H3) ⟨rfl, rfl⟩ ?_ (szlt (by simp; omega)) ?_ ?_⟩
    · rintro i ys H3 ⟨rfl, rfl⟩
      exact ⟨SqL.of e2, by simp; omega⟩
    · rintro i x ys H3 hx ⟨rfl, rfl⟩
      rw [List.getElem?_map] at hx
      obtain ⟨z, hz, rfl⟩ := Option.map_eq_some_iff.mp hx
      have hzm := List.mem_of_getElem? hz
      walk_at "st"
      refine ⟨z, rfl, hPa z (by simp [hzm]), Nat.le_trans (hPl z (by simp [hzm])) hl, ?_⟩
      refine ⟨?_, rfl⟩
      rw [take_snoc_get hz]
      simp
    rintro l4 ys H3 ⟨rfl, rfl⟩ h4
    rw [List.length_map, List.take_of_length_le (Nat.le_refl _)]
    have e4 : upd H2 l4 (.lst (r.map numV)) l4 = some (.lst (r.map numV)) := upd_same
    have s4 : Same H2 _ := same_upd (o := .lst (r.map numV)) h4
    generalize upd H2 l4 (.lst (r.map numV)) = H4 at *
    walk_at "st"
    refine ⟨l4, _, rfl, .inl (SqL.of e4), rfl, ?_, ?_⟩
    · refine List.all_eq_true.mpr fun v hv => ?_
      obtain ⟨z, _, rfl⟩ := List.mem_map.mp hv
      unfold numV
      split <;> rfl
    rw [inV_non]
    walk_at "st"
    refine i_if (fun g9 => ?_) (fun g9 => ?_)
    · walk_at "st"
      exact hno _ (s2.trans s4) fun z => g9 z.2.2
    · walk_at "st"
      have hw : ∀ p ∈ r, numW (sg p) := Classical.not_not.mp g9
      have S4 := s1.trans (s2.trans s4)
      refine k _ (by rw [hnu, if_pos ⟨hn, by omega, hw⟩]) l4 H4 ⟨(s1.trans s2).free h4, S4, ?_⟩
      rw [e4]
      congr 2
      unfold iL
      rw [List.map_map]
      exact List.map_congr_left fun z hz => if_pos (hw z hz)

--SPLIT
def spLawKeeps : Sp := fun vs H Q _ => ∃ (a b : Addr) (ps xs : List Int) (hd : Int), vs = [.ref a, .int hd, .ref b] ∧ H a = some (.lst (iL ps)) ∧ H b = some (.lst (iL xs)) ∧ ∀ (r : Bool) H', (r = true ↔ stand ps hd xs) → Same H H' → Q (.bl r) H'
theorem ok_law_keeps (T : Txt mg) (D : Def K mg "_law_keeps" s_law_keeps) : Callee P w K mg base "_law_keeps" 1 spLawKeeps := by
  refine D.ok sc_law_keeps bd_law_keeps (fun vs H Q E h => ?len) (fun f cdv A outer s H vs Q E hr h => ?body)
  case len => obtain ⟨a, b, ps, xs, hd, rfl, _⟩ := h; rfl
  case body =>
    obtain ⟨a, b, ps, xs, hd, rfl, hA, hB, k⟩ := h
    have hu := hr.units
    refine ⟨_, (pss_cons (ps_if (pt_cmpR (op_neK K hu) (pe_callB (call_lenK K) (by rfl) T.z_len bt_len (pa_cons (pv 0) pa_nil)) (pe_callB (call_lenK K) (by rfl) T.z_len bt_len (pa_cons (pv 2) pa_nil)) (nomark _))
 (pss_one (ps_ret pe_bl))
 pss_nil)
 (pss_cons (ps_set (i := 3) sc_law_keeps.nd rfl (Or.inl rfl) (pv 1))
 (pss_cons (ps_for PassesOwn.never rfl (pi_zip2K K (by rfl) T.z_zip (pa_cons (pv 0) (pa_cons (pv 2) pa_nil))) (pg_tupK K 2 (pgs_cons (pg_name (i := 4) sc_law_keeps.nd rfl (Or.inl rfl)) (pgs_cons (pg_name (i := 5) sc_law_keeps.nd rfl (Or.inl rfl)) pgs_nil)))
 (pss_cons (ps_if (PW.pt (pw_or (pt_cmpR op_gt (pe_op op_sub (pv 5) (pv 3)) (pv 4) (nomark _)) (pw_or1 (pt_cmpR op_gt (pe_op op_sub (pv 3) (pv 5)) (pv 4) (nomark _)))))
 (pss_one (ps_ret pe_bl))
 pss_nil)
 (pss_one (ps_set (i := 3) sc_law_keeps.nd rfl (Or.inl rfl) (pv 5)))))
 (pss_one (ps_ret pe_bl))))), ?_⟩
    dsimp only [tSeq, tAsg, gName, tOp, tUn, tTest, tB, tAnd, tOr, tNot, tAndV, tOrV, tNotV, tIf, tIfS, tRet, tRetN, tDrop, tNext, tCons, tNil, tCB, tCall, tMenu, tComp, tComp2, msk, List.zipWith, iZip2, iStr, iEnum, tNoIf, tTru, tJoin, cxOf_K, tLst, tTup, tSl, tPart, tNoPart, tBM, tBM0, tChain, tC, tFor_eq, gTup, gStar, gLst, gCons, gNil, gSub, iList, iRng1, iRng2, iRng3, iTup, tWhile, tRev, tRaise, tCallS, tTry, tAug, tPar, tNever, ipI, List.append_nil]
    try clear hu
    walk_at "st"
    refine i_lenI (SqL.of hA) ?_
    walk_at "st"
    refine i_lenI (SqL.of hB) ?_
    walk_at "st"
    refine i_ifn (fun g => ?_) (fun g => ?_)
    · walk_at "st"
      exact k _ _ ⟨fun z => (Bool.noConfusion z), fun z => absurd z.1 (by omega)⟩ (Same.refl _)
    have hst : stand ps hd xs ↔ keeps ps hd xs := ⟨fun z => z.2, fun z => ⟨by omega, z⟩⟩
    walk_at "st"
    refine ⟨_, _, rfl, ⟨_, SqL.of hA⟩, ⟨_, SqL.of hB⟩, lp_zip (xs := iL ps) (ys := iL xs) (fun i σ H2 => ∃ (ah : Int) (u v : Option V), σ = [some (.ref a), some (.int hd), some (.ref b), some (.int ah), u, v] ∧ Same H H2 ∧ (keeps ps hd xs ↔ keeps (ps.drop i) ah (xs.drop i))) ?_ ?_ ?_ ?_⟩
    · exact ⟨hd, _, _, rfl, Same.refl _, Iff.rfl⟩
    · rintro i σ H2 ⟨ah, u, v, rfl, sm, hk⟩
      exact ⟨SqL.of (sm _ _ hA), SqL.of (sm _ _ hB)⟩
    · rintro i x y t σ H2 hx hy ⟨ah, u, v, rfl, sm, hk⟩ ht
      unfold iL at hx hy
      rw [List.getElem?_map] at hx hy
      obtain ⟨p, hp, rfl⟩ := Option.map_eq_some_iff.mp hx
      obtain ⟨q, hq, rfl⟩ := Option.map_eq_some_iff.mp hy
      walk_at "st"
      refine ⟨_, _, rfl, SqT.of upd_same, rfl, _, _, rfl, _, _, rfl, rfl, ?_⟩
      walk_at "st"
      rw [dropc hp, dropc hq] at hk
      have hk' : keeps ps hd xs ↔ (q - ah ≤ p ∧ ah - q ≤ p) ∧ keeps (ps.drop (i + 1)) q (xs.drop (i + 1)) := hk
      refine i_if (fun g => ?_) (fun g => ?_)
      · walk_at "st"
        refine k _ _ ⟨fun z => (Bool.noConfusion z), fun z => ?_⟩ (sm.trans (same_upd ht))
        have := (hk'.mp (hst.mp z)).1
        omega
      · walk_at "st"
        refine i_if (fun g2 => ?_) (fun g2 => ?_)
        · walk_at "st"
          refine k _ _ ⟨fun z => (Bool.noConfusion z), fun z => ?_⟩ (sm.trans (same_upd ht))
          have := (hk'.mp (hst.mp z)).1
          omega
        · walk_at "st"
          exact ⟨q, _, _, rfl, sm.trans (same_upd ht), hk'.trans ⟨fun z => z.2, fun z => ⟨by omega, z⟩⟩⟩
    · rintro σ H2 ⟨ah, u, v, rfl, sm, hk⟩
      walk_at "st"
      refine k _ _ ⟨fun _ => hst.mpr (hk.mpr ?_), fun _ => rfl⟩ sm
      simp only [iL, List.length_map]
      exact keeps_end
def Fault (ps : List Int) (hd : Int) (ws : List Int) (d : Str) : Prop := (d = "NoTrain" ∧ ¬ isTr ps) ∨ (d = "NoStand" ∧ isTr ps ∧ ¬ stand ps hd ws) ∨ (d = "" ∧ isTr ps ∧ stand ps hd ws)
def spFault : Sp := fun vs H Q _ => ∃ (a b : Addr) (ps ws : List Int) (hd : Int), vs = [.ref a, .int hd, .ref b] ∧ H a = some (.lst (iL ps)) ∧ H b = some (.lst (iL ws)) ∧ ∀ d H', Same H H' → Fault ps hd ws d → Q (.str d) H'
theorem ok_law_a_fault (T : Txt mg) (D : Def K mg "_law_a_fault" s_law_a_fault) (C_law_keeps : Callee P w K mg base "_law_keeps" 1 spLawKeeps) : Callee P w K mg base "_law_a_fault" 2 spFault := by
  refine D.ok sc_law_a_fault bd_law_a_fault (fun vs H Q E h => ?len) (fun f cdv A outer s H vs Q E hr h => ?body)
  case len => obtain ⟨a, b, ps, xs, hd, rfl, _⟩ := h; rfl
  case body =>
    obtain ⟨a, b, ps, ws, hd, rfl, hA, hB, k⟩ := h
    have hu := hr.units
    refine ⟨_, (pss_cons (ps_if (PW.pt (pw_or (pt_cmpR (op_eqK K hu) (pv 0) (pe_lst pa_nil) (nomark _)) (pw_or (pt_cmpR op_gt (pe_callB (call_lenK K) (by rfl) T.z_len bt_len (pa_cons (pv 0) pa_nil)) pe_int (nomark _)) (pw_or1 (pt_cmpR op_lt (pe_callB (call_minK K) (by rfl) T.z_min bt_min (pa_cons (pv 0) pa_nil)) pe_int (nomark _))))))
 (pss_one (ps_ret pe_str))
 pss_nil)
 (pss_one (ps_ret (pe_menu (pa_cons pe_str (pa_cons pe_str pa_nil)) (pe_callTy call_intK (by rfl) T.z_int bt_int (pa_cons (pe_callN C_law_keeps (hr.mono (by decide)) (by rfl) (pa_cons (pv 0) (pa_cons (pv 1) (pa_cons (pv 2) pa_nil)))) pa_nil)) (by exact fun _ _ => rfl))))), ?_⟩
    dsimp only [tSeq, tAsg, gName, tOp, tUn, tTest, tB, tAnd, tOr, tNot, tAndV, tOrV, tNotV, tIf, tIfS, tRet, tRetN, tDrop, tNext, tCons, tNil, tCB, tCall, tMenu, tComp, tComp2, msk, List.zipWith, iZip2, iStr, iEnum, tNoIf, tTru, tJoin, cxOf_K, tLst, tTup, tSl, tPart, tNoPart, tBM, tBM0, tChain, tC, tFor_eq, gTup, gStar, gLst, gCons, gNil, gSub, iList, iRng1, iRng2, iRng3, iTup, tWhile, tRev, tRaise, tCallS, tTry, tAug, tPar, tNever, ipI, List.append_nil]
    try clear hu
    walk_at "st"
    intro l1 h1
    have s1 : Same H _ := same_upd (o := .lst []) h1
    refine i_eqL (xs := ps) (ys := []) (SqL.of (s1 _ _ hA)) (SqL.of upd_same) ?_
    generalize upd H l1 (.lst []) = H1 at *
    walk_at "st"
    refine i_if (fun g => ?_) (fun g => ?_)
    · walk_at "st"
      exact k _ _ s1 (.inl ⟨rfl, fun z => by have := z.1; rw [g] at this; simp at this⟩)
    have hp0 : 0 < ps.length := List.length_pos_iff.mpr g
    walk_at "st"
    refine i_lenI (SqL.of (s1 _ _ hA)) ?_
    walk_at "st"
    refine i_if (fun g2 => ?_) (fun g2 => ?_)
    · walk_at "st"
      exact k _ _ s1 (.inl ⟨rfl, fun z => by have := z.2.1; omega⟩)
    walk_at "st"
    refine i_minL (SqL.of (s1 _ _ hA)) hp0 (fun m hm1 hm2 => ?_)
    walk_at "st"
    refine i_if (fun g3 => ?_) (fun g3 => ?_)
    · walk_at "st"
      exact k _ _ s1 (.inl ⟨rfl, fun z => by have := z.2.2 m hm1; omega⟩)
    have ht : isTr ps := ⟨by omega, by omega, fun p hp => by have := hm2 p hp; omega⟩
    walk_at "st"
    refine ⟨a, b, ps, ws, hd, rfl, s1 _ _ hA, s1 _ _ hB, fun r H2 hr2 s2 => ?_⟩
    walk_at "st"
    cases r with
    | true =>
      refine ⟨1, .str "", rfl, rfl, ?_⟩
      exact k _ _ (s1.trans s2) (.inr (.inr ⟨rfl, ht, hr2.mp rfl⟩))
    | false =>
      refine ⟨0, .str "NoStand", rfl, rfl, ?_⟩
      exact k _ _ (s1.trans s2) (.inr (.inl ⟨rfl, ht, fun z => by have := hr2.mpr z; cases this⟩))

--SPLIT
def MOut (text : Str) (H : Hp) (v : V) : Prop := (meant? text = none ∧ v = .non) ∨ ∃ ps hd ws t lp lw, meant? text = some (ps, hd, ws) ∧ v = .ref t ∧ H t = some (.tup [.ref lp, .int hd, .ref lw]) ∧ H lp = some (.lst (iL ps)) ∧ H lw = some (.lst (iL ws))
theorem MOut.more {text : Str} {H H' : Hp} {v : V} (h : MOut text H v) (s : Same H H') : MOut text H' v := by
  rcases h with h | ⟨ps, hd, ws, t, lp, lw, e1, e2, e3, e4, e5⟩
  · exact .inl h
  · exact .inr ⟨ps, hd, ws, t, lp, lw, e1, e2, s _ _ e3, s _ _ e4, s _ _ e5⟩
def spMeant : Sp := fun vs H Q _ => ∃ (text : Str), vs = [.str text] ∧ Asc text ∧ text.length ≤ 20000 ∧ ∀ v H', Same H H' → MOut text H' v → Q v H'
theorem ok_law_a_meant (T : Txt mg) (D : Def K mg "_law_a_meant" s_law_a_meant) (C_law_a_numbers : Callee P w K mg base "_law_a_numbers" 2 spLawNums) : Callee P w K mg base "_law_a_meant" 3 spMeant := by
  refine D.ok sc_law_a_meant bd_law_a_meant (fun vs H Q E h => ?len) (fun f cdv A outer s H vs Q E hr h => ?body)
  case len => obtain ⟨text, rfl, _⟩ := h; rfl
  case body =>
    obtain ⟨text, rfl, hA, hl, kk⟩ := h
    have kx : meant? text = none → ∀ H', Same H H' → Q .non H' := fun e H' s => kk _ _ s (.inl ⟨e, rfl⟩)
    have k : ∀ ps hd ws, meant? text = some (ps, hd, ws) → ∀ t lp lw H', Same H H' → H' t = some (.tup [.ref lp, .int hd, .ref lw]) → H' lp = some (.lst (iL ps)) → H' lw = some (.lst (iL ws)) → Q (.ref t) H' := fun ps hd ws e t lp lw H' s a b c => kk _ _ s (.inr ⟨ps, hd, ws, t, lp, lw, e, rfl, a, b, c⟩)
    clear kk
    have hu := hr.units
    refine ⟨_, (pss_cons (ps_set (i := 1) sc_law_a_meant.nd rfl (Or.inl rfl) (pe_bmK K PySem.F.plainAttrs_str PySem.F.slot_str_split PySem.F.type_str_split mt_split (pv 0) (pa_cons pe_str pa_nil)))
 (pss_cons (ps_if (pt_cmpR (op_neK K hu) (pe_callB (call_lenK K) (by rfl) T.z_len bt_len (pa_cons (pv 1) pa_nil)) pe_int (nomark _))
 (pss_one (ps_ret pe_non))
 pss_nil)
 (pss_cons (ps_set (i := 2) sc_law_a_meant.nd rfl (Or.inl rfl) (pe_callN C_law_a_numbers (hr.mono (by decide)) (by rfl) (pa_cons (pe_ix (ix_K K) (pv 1) pe_int (by exact fun _ _ => rfl)) (pa_cons pe_str (pa_cons pe_int pa_nil)))))
 (pss_cons (ps_set (i := 3) sc_law_a_meant.nd rfl (Or.inl rfl) (pe_callN C_law_a_numbers (hr.mono (by decide)) (by rfl) (pa_cons (pe_ix (ix_K K) (pv 1) pe_int (by exact fun _ _ => rfl)) (pa_cons pe_str (pa_cons pe_int pa_nil)))))
 (pss_cons (ps_if (PW.pt (pw_or (pt_cmpR op_isN (pv 2) pe_non (nomark _)) (pw_or1 (pt_cmpR op_isN (pv 3) pe_non (nomark _)))))
 (pss_one (ps_ret pe_non))
 pss_nil)
 (pss_one (ps_ret (pe_tup (pa_cons (pv 2) (pa_cons (pe_ix (ix_K K) (pv 3) pe_int (by exact fun _ _ => rfl)) (pa_cons (pe_slice (sl_listK K) (pv 3) (po_some pe_int) po_none) pa_nil))))))))))), ?_⟩
    dsimp only [tSeq, tAsg, gName, tOp, tUn, tTest, tB, tAnd, tOr, tNot, tAndV, tOrV, tNotV, tIf, tIfS, tRet, tRetN, tDrop, tNext, tCons, tNil, tCB, tCall, tMenu, tComp, tComp2, msk, List.zipWith, iZip2, iStr, iEnum, tNoIf, tTru, tJoin, cxOf_K, tLst, tTup, tSl, tPart, tNoPart, tBM, tBM0, tChain, tC, tFor_eq, gTup, gStar, gLst, gCons, gNil, gSub, iList, iRng1, iRng2, iRng3, iTup, tWhile, tRev, tRaise, tCallS, tTry, tAug, tPar, tNever, ipI, List.append_nil]
    try clear hu
    walk_at "st"
    have hP := split_ok text 10
    refine ⟨rfl, text, ⟨#[10]⟩, rfl, rfl, rfl, by omega, ?_, fun l1 h1 => ?_⟩
    · have := hP.sum
      omega
    have hPs := hP.sum
    have hPa := hP.asc hA
    have hPl := hP.len
    generalize hsp : Txt.split text ⟨#[10]⟩ = rs at *
    have e1 : upd H l1 (.lst (rs.map V.str)) l1 = some (.lst (rs.map V.str)) := upd_same
    have s1 : Same H _ := same_upd (o := .lst (rs.map V.str)) h1
    generalize upd H l1 (.lst (rs.map V.str)) = H1 at *
    walk_at "st"
    refine i_len (SqL.of e1) ?_
    rw [List.length_map]
    walk_at "st"
    refine i_ifn (fun g => ?_) (fun g => ?_)
    · walk_at "st"
      refine kx ?_ _ s1
      unfold meant?
      rw [hsp]
      split
      · simp at g
      · rfl
    obtain ⟨r0, r1, rfl⟩ : ∃ r0 r1, rs = [r0, r1] := by
      match rs, g with
      | [a, b], _ => exact ⟨a, b, rfl⟩
      | [], g => simp at g
      | [_], g => simp at g
      | _ :: _ :: _ :: r, g => simp at g; omega
    have hme : meant? text = two? (nums? "plays" 1 r0) (nums? "at" 2 r1) := by
      unfold meant?
      rw [hsp]
    walk_at "st"
    refine i_ixN (SqL.of e1) (by decide) rfl ?_
    walk_at "st"
    have at1 : ∀ {Q' : VK} {H' : Hp}, Same H1 H' → Q' (.str r1) H' → rIxP K (.ref l1) (.int 1) H' Q' := fun s q => i_ixN (SqL.of (s _ _ e1)) (by decide) rfl q
    refine ⟨"plays", r0, 1, rfl, by decide +kernel, hPa r0 (by simp), Nat.le_trans (hPl r0 (by simp)) hl, by decide, fun ps hps l2 H2 N2 => ?_, fun hn H2 s2 => ?_⟩
    · rw [hps] at hme
      have s2 := N2.sm
      have e2 := N2.at_
      clear N2
      walk_at "st"
      refine at1 s2 ?_
      walk_at "st"
      refine ⟨"at", r1, 2, rfl, by decide +kernel, hPa r1 (by simp), Nat.le_trans (hPl r1 (by simp)) hl, by decide, fun ns hns l3 H3 N3 => ?_, fun hn H3 s3 => ?_⟩
      · rw [hns] at hme
        have hn2 := (nums_back hns (by decide)).2
        obtain ⟨hd, ws, rfl⟩ : ∃ hd ws, ns = hd :: ws := by
          cases ns with
          | nil => simp at hn2
          | cons a r => exact ⟨a, r, rfl⟩
        have s3 := N3.sm
        have e3 := N3.at_
        clear N3
        walk_at "st"
        refine ⟨rfl, _, rfl, ifF (by simp) ?_⟩
        walk_at "st"
        refine ⟨rfl, _, rfl, ifF (by simp) ?_⟩
        walk_at "st"
        refine i_ixL (SqL.of e3) (by decide) (by simp) (fun v hv _ => ?_)
        have : v = hd := by simpa using hv.symm
        subst this
        walk_at "st"
        refine i_slFrom (SqL.of e3) (by decide) (fun l4 h4 => ?_)
        have e4 : upd H3 l4 (.lst (iL ((v :: ws).drop (1 : Int).toNat))) l4 = some (.lst (iL ws)) := upd_same
        have s4 : Same H3 _ := same_upd (o := .lst (iL ((v :: ws).drop (1 : Int).toNat))) h4
        generalize upd H3 l4 (.lst (iL ((v :: ws).drop (1 : Int).toNat))) = H4 at *
        walk_at "st"
        intro t5 h5
        exact k ps v ws hme t5 l2 l4 _ (s1.trans (s2.trans (s3.trans (s4.trans (same_upd h5))))) upd_same (same_upd h5 _ _ (s4 _ _ (s3 _ _ e2))) (same_upd h5 _ _ e4)
      · walk_at "st"
        refine ⟨rfl, _, rfl, ifF (by simp) ?_⟩
        walk_at "st"
        refine ⟨rfl, _, rfl, ifT (by simp) ?_⟩
        exact kx (by rw [hme, hn]; rfl) _ (s1.trans (s2.trans s3))
    · rw [hn] at hme
      walk_at "st"
      refine at1 s2 ?_
      walk_at "st"
      have hno : meant? text = none := by rw [hme]; rfl
      refine ⟨"at", r1, 2, rfl, by decide +kernel, hPa r1 (by simp), Nat.le_trans (hPl r1 (by simp)) hl, by decide, fun ns hns l3 H3 N3 => ?_, fun hn H3 s3 => ?_⟩
      · walk_at "st"
        refine ⟨rfl, _, rfl, ifT (by simp) ?_⟩
        walk_at "st"
        exact kx hno _ (s1.trans (s2.trans N3.sm))
      · walk_at "st"
        refine ⟨rfl, _, rfl, ifT (by simp) ?_⟩
        walk_at "st"
        exact kx hno _ (s1.trans (s2.trans s3))

--SPLIT
def spPlaces : Sp := fun vs H Q _ => ∃ (a : Addr) (ns : List Int) (many : Int), vs = [.ref a, .int many] ∧ H a = some (.lst (iL ns)) ∧ (ns.length : Int) = many ∧ ns.length ≤ 50000 ∧ ∀ H', Same H H' → Q (.bl true) H'
theorem ok_law_a_places (T : Txt mg) (D : Def K mg "_law_a_places" s_law_a_places) (C_law_whole : Callee P w K mg base "_law_whole" 1 spWhole) : Callee P w K mg base "_law_a_places" 2 spPlaces := by
  refine D.ok sc_law_a_places bd_law_a_places (fun vs H Q E h => ?len) (fun f cdv A outer s H vs Q E hr h => ?body)
  case len => obtain ⟨a, ns, k, rfl, _⟩ := h; rfl
  case body =>
    obtain ⟨a, ns, many, rfl, hS, hm, hbig, k⟩ := h
    have hu := hr.units
    refine ⟨_, (pss_cons (ps_if (PW.pt (pw_or (pt_not (pt_truthK K (pe_callB (call_isinstanceK K) (by rfl) T.z_isinstance bt_isinstance (pa_cons (pv 0) (pa_cons (pe_bltn (by rfl) T.z_list bt_list (show RelV (.ty "list") _ from rfl)) pa_nil))))) (pw_or1 (pt_cmpR (op_neK K hu) (pe_callB (call_lenK K) (by rfl) T.z_len bt_len (pa_cons (pv 0) pa_nil)) (pv 1) (nomark _)))))
 (pss_one (ps_ret pe_bl))
 pss_nil)
 (pss_one (ps_ret (pe_cmpR (op_eqK K hu) (by exact pe_comp (N := ["one"]) (fr := [none]) ⟨by rfl, by decide +kernel, by decide +kernel, (show ∀ y ∈ (_ : List (Str × NameKind)), y.2 = NameKind.free → (defScope s_law_a_places).names.lookup y.1 = some .cell ∨ (defScope s_law_a_places).names.lookup y.1 = some .free by decide +kernel), (fr_none fr_nil)⟩ (by rfl) (pi_listK K (pv 0)) (fun _ _ _ _ => (pg_name (i := 0) (show List.Nodup (["one"] : List Str) by decide) (by rfl) (by first | exact Or.inl rfl | exact Or.inr rfl))) (fun _ _ _ _ => (pifs_one (pt_not (pt_truthK K (pe_callN C_law_whole (hr.mono (by decide)) (by rfl) (pa_cons (pv 0) pa_nil)))))) (fun _ _ _ _ => (pv 0)) (gw_name (by rfl))) (pe_lst pa_nil) (nomark _))))), ?_⟩
    dsimp only [tSeq, tAsg, gName, tOp, tUn, tTest, tB, tAnd, tOr, tNot, tAndV, tOrV, tNotV, tIf, tIfS, tRet, tRetN, tDrop, tNext, tCons, tNil, tCB, tCall, tMenu, tComp, tComp2, msk, List.zipWith, iZip2, iStr, iEnum, tNoIf, tTru, tJoin, cxOf_K, tLst, tTup, tSl, tPart, tNoPart, tBM, tBM0, tChain, tC, tFor_eq, gTup, gStar, gLst, gCons, gNil, gSub, iList, iRng1, iRng2, iRng3, iTup, tWhile, tRev, tRaise, tCallS, tTry, tAug, tPar, tNever, ipI, List.append_nil]
    try clear hu
    walk_at "st"
    refine i_isiLL hS ?_
    walk_at "st"
    refine i_lenI (SqL.of hS) ?_
    walk_at "st"
    refine i_ifn (fun g => absurd hm g) (fun _ => ?_)
    walk_at "st"
    refine ⟨⟨_, SqL.of hS⟩, cp_list (xs := iL ns) (fun i ys H2 => ys = [] ∧ Same H H2) ⟨rfl, Same.refl _⟩ ?_ (szlt (by simp [iL]; omega)) ?_ ?_⟩
    · rintro i ys H2 ⟨rfl, sm⟩
      exact ⟨SqL.of (sm _ _ hS), by simp⟩
    · rintro i x ys H2 hx ⟨rfl, sm⟩
      rw [List.getElem?_map] at hx
      obtain ⟨z, hz, rfl⟩ := Option.map_eq_some_iff.mp hx
      walk_at "st"
      refine ⟨z, rfl, ?_⟩
      walk_at "st"
      exact ⟨rfl, sm⟩
    · rintro l ys H2 ⟨rfl, sm⟩ hl
      walk_at "st"
      intro e he
      refine i_eqL (xs := []) (ys := []) (SqL.of (by rw [upd_ne (ne_of_none upd_same he), upd_same]; rfl)) (SqL.of upd_same) ?_
      exact k _ ((sm.trans (same_upd hl)).trans (same_upd he))

/-- what read tells -/
def ROut (text : Str) (H : Hp) (v : V) (bs : List Bool) : Prop :=
  (meant? text = none ∧ v = .non ∧ bs = dueX "NoText") ∨ ∃ ps hd ws, meant? text = some (ps, hd, ws) ∧
    ((¬ isTr ps ∧ v = .non ∧ bs = dueX "NoTrain") ∨ (isTr ps ∧ ¬ stand ps hd ws ∧ v = .non ∧ bs = dueX "NoStand") ∨
     (isTr ps ∧ stand ps hd ws ∧ bs = [] ∧ ∃ t lp lw, v = .ref t ∧ H t = some (.tup [.ref lp, .int hd, .ref lw]) ∧ H lp = some (.lst (iL ps)) ∧ H lw = some (.lst (iL ws))))
theorem ROut.more {text : Str} {H H' : Hp} {v : V} {bs : List Bool} (h : ROut text H v bs) (s : Same H H') : ROut text H' v bs := by
  rcases h with h | ⟨ps, hd, ws, e, h | h | ⟨a, b, c, t, lp, lw, e1, e2, e3, e4⟩⟩
  · exact .inl h
  · exact .inr ⟨ps, hd, ws, e, .inl h⟩
  · exact .inr ⟨ps, hd, ws, e, .inr (.inl h)⟩
  · exact .inr ⟨ps, hd, ws, e, .inr (.inr ⟨a, b, c, t, lp, lw, e1, s _ _ e2, s _ _ e3, s _ _ e4⟩)⟩
theorem kin_T (Z : Cls K mg) : KinF Z Z.c_NoTrain true false false false false false false false false false false false := ⟨Z.isi_NoTrain, Z.k_NoTrain_NoTrain, Z.k_NoTrain_NoStand, Z.k_NoTrain_NoPaper, Z.k_NoTrain_NoBox, Z.k_NoTrain_NoSwitch, Z.k_NoTrain_NoPlace, Z.k_NoTrain_NoTable, Z.k_NoTrain_NoText, Z.k_NoTrain_NoRow, Z.k_NoTrain_NoPiece, Z.k_NoTrain_NothingLeft, Z.k_NoTrain_TooMany, Z.k_NoTrain_ValueError⟩
theorem kin_S (Z : Cls K mg) : KinF Z Z.c_NoStand false true false false false false false false false false false false := ⟨Z.isi_NoStand, Z.k_NoStand_NoTrain, Z.k_NoStand_NoStand, Z.k_NoStand_NoPaper, Z.k_NoStand_NoBox, Z.k_NoStand_NoSwitch, Z.k_NoStand_NoPlace, Z.k_NoStand_NoTable, Z.k_NoStand_NoText, Z.k_NoStand_NoRow, Z.k_NoStand_NoPiece, Z.k_NoStand_NothingLeft, Z.k_NoStand_TooMany, Z.k_NoStand_ValueError⟩
theorem kin_X (Z : Cls K mg) : KinF Z Z.c_NoText false false false false false false false true false false false false := ⟨Z.isi_NoText, Z.k_NoText_NoTrain, Z.k_NoText_NoStand, Z.k_NoText_NoPaper, Z.k_NoText_NoBox, Z.k_NoText_NoSwitch, Z.k_NoText_NoPlace, Z.k_NoText_NoTable, Z.k_NoText_NoText, Z.k_NoText_NoRow, Z.k_NoText_NoPiece, Z.k_NoText_NothingLeft, Z.k_NoText_TooMany, Z.k_NoText_ValueError⟩
theorem due_T : dueX "NoTrain" = [true, false, false, false, false, false, false, false, false, false, false, false, true] := by decide +kernel
theorem due_S : dueX "NoStand" = [false, true, false, false, false, false, false, false, false, false, false, false, true] := by decide +kernel
theorem due_X : dueX "NoText" = [false, false, false, false, false, false, false, true, false, false, false, false, true] := by decide +kernel
def spTold31 : Sp := fun vs H Q _ => ∃ (text : Str), vs = [.str text] ∧ Asc text ∧ text.length ≤ 20000 ∧ ∀ t v lk bs H', Same H H' → H' t = some (.tup [v, .ref lk]) → H' lk = some (.lst (bL bs)) → ROut text H' v bs → Q (.ref t) H'
theorem ok_law_a_told (T : Txt mg) (Z : Cls K mg) (D : Def K mg "_law_a_told" s_law_a_told) (C_read : CalleeE P w K mg base "read" 5 (spRead Z.c_NoTrain Z.c_NoStand Z.c_NoText)) (C_law_a_kin : CalleeN P w K mg base "_law_a_kin" 1 (spKinG Z)) : Callee P w K mg base "_law_a_told" 6 spTold31 := by
  refine D.ok sc_law_a_told bd_law_a_told (fun vs H Q E h => ?len) (fun f cdv A outer s H vs Q E hr h => ?body)
  case len => obtain ⟨text, rfl, _⟩ := h; rfl
  case body =>
    obtain ⟨text, rfl, hA, hl, k⟩ := h
    have hu := hr.units
    refine ⟨_, (pss_cons (ps_set (i := 1) sc_law_a_told.nd rfl (Or.inl rfl) pe_non)
 (pss_cons (ps_set (i := 2) sc_law_a_told.nd rfl (Or.inl rfl) (pe_lst pa_nil))
 (pss_join (ps_try (TC := Z.c_TrainError) (j := 3) rfl rfl rfl Z.m_TrainError (by rfl) sc_law_a_told.nd rfl rfl rfl (fun pins ξ Ex hp => (pss_one (ps_set (i := 1) sc_law_a_told.nd rfl (Or.inl rfl) (pe_callS C_read (hr.mono (by decide)) (by rfl) hp (pa_cons (pv 0) pa_nil))))) (fun pins e => (pss_one (ps_set (i := 2) sc_law_a_told.nd rfl (Or.inl rfl) (pe_callC C_law_a_kin ((hr.mono (by decide)).noted _) (by rfl) (pa_cons (pv 3) pa_nil))))))
 (pss_one (ps_ret (pe_tup (pa_cons (pv 1) (pa_cons (pv 2) pa_nil)))))))), ?_⟩
    dsimp only [tSeq, tAsg, gName, tOp, tUn, tTest, tB, tAnd, tOr, tNot, tAndV, tOrV, tNotV, tIf, tIfS, tRet, tRetN, tDrop, tNext, tCons, tNil, tCB, tCall, tMenu, tComp, tComp2, msk, List.zipWith, iZip2, iStr, iEnum, tNoIf, tTru, tJoin, cxOf_K, tLst, tTup, tSl, tPart, tNoPart, tBM, tBM0, tChain, tC, tFor_eq, gTup, gStar, gLst, gCons, gNil, gSub, iList, iRng1, iRng2, iRng3, iTup, tWhile, tRev, tRaise, tCallS, tTry, tAug, tPar, tNever, ipI, List.append_nil]
    try clear hu
    walk_at "st"
    intro l1 h1
    have s1 : Same H _ := same_upd (o := .lst []) h1
    have e1 : upd H l1 (.lst []) l1 = some (.lst []) := upd_same
    generalize upd H l1 (.lst []) = H1 at *
    walk_at "st"
    refine ⟨fun σ H8 => ∃ (v : V) (lk : Addr) (bs : List Bool) (u : Option V), σ = [some (.str text), some v, some (.ref lk), u] ∧ Same H H8 ∧ H8 lk = some (.lst (bL bs)) ∧ ROut text H8 v bs, ?_, ?_⟩
    · walk_at "st"
      refine ⟨text, rfl, hA, hl, fun hn H8 s8 => ?_, fun ps hd ws hm => ⟨fun ht hs t8 lp lw H8 s8 a8 b8 c8 => ?_, ⟨fun hn H8 s8 => ?_, fun ht hn H8 s8 => ?_⟩⟩⟩
      · refine ⟨Z.e_NoText, fun e he => ?_⟩
        walk_at "st"
        refine ⟨e, _, _, _, _, _, _, _, _, _, _, _, _, _, rfl, upd_same, kin_X Z, fun lk H9 s9 hk => ?_⟩
        exact ⟨_, lk, _, _, rfl, (s1.trans s8).trans ((same_upd he).trans s9), hk, .inl ⟨hn, rfl, due_X.symm⟩⟩
      · walk_at "st"
        exact ⟨_, l1, [], _, rfl, s1.trans s8, s8 _ _ e1, .inr ⟨ps, hd, ws, hm, .inr (.inr ⟨ht, hs, rfl, t8, lp, lw, rfl, a8, b8, c8⟩)⟩⟩
      · refine ⟨Z.e_NoTrain, fun e he => ?_⟩
        walk_at "st"
        refine ⟨e, _, _, _, _, _, _, _, _, _, _, _, _, _, rfl, upd_same, kin_T Z, fun lk H9 s9 hk => ?_⟩
        exact ⟨_, lk, _, _, rfl, (s1.trans s8).trans ((same_upd he).trans s9), hk, .inr ⟨ps, hd, ws, hm, .inl ⟨hn, rfl, due_T.symm⟩⟩⟩
      · refine ⟨Z.e_NoStand, fun e he => ?_⟩
        walk_at "st"
        refine ⟨e, _, _, _, _, _, _, _, _, _, _, _, _, _, rfl, upd_same, kin_S Z, fun lk H9 s9 hk => ?_⟩
        exact ⟨_, lk, _, _, rfl, (s1.trans s8).trans ((same_upd he).trans s9), hk, .inr ⟨ps, hd, ws, hm, .inr (.inl ⟨ht, hn, rfl, due_S.symm⟩)⟩⟩
    rintro σ H8 ⟨v, lk, bs, u, rfl, s8, hk, hg⟩
    walk_at "st"
    intro t9 h9
    exact k t9 v lk bs _ (s8.trans (same_upd h9)) upd_same (same_upd h9 _ _ hk) (hg.more (same_upd h9))
/-- what shown tells -/
def SOut (ps ws : List Int) (hd : Int) (v : V) (bs : List Bool) : Prop :=
  (¬ isTr ps ∧ v = .non ∧ bs = dueX "NoTrain") ∨ (isTr ps ∧ ¬ stand ps hd ws ∧ v = .non ∧ bs = dueX "NoStand") ∨
  (isTr ps ∧ stand ps hd ws ∧ bs = [] ∧ v = .str (Str.join ⟨#[10]⟩ [("plays " : Str) ++ Str.join ⟨#[32]⟩ (ps.map tx), ("at " : Str) ++ Str.join ⟨#[32]⟩ ((hd :: ws).map tx)]))
def spLawShown : Sp := fun vs H Q _ => ∃ (a b : Addr) (ps ws : List Int) (hd : Int), vs = [.ref a, .int hd, .ref b] ∧ H a = some (.lst (iL ps)) ∧ H b = some (.lst (iL ws)) ∧ Small hd ∧ (∀ n ∈ ps, Small n) ∧ (∀ n ∈ ws, Small n) ∧
  ∀ t v lk bs H', Same H H' → H' t = some (.tup [v, .ref lk]) → H' lk = some (.lst (bL bs)) → SOut ps ws hd v bs → Q (.ref t) H'
theorem ok_law_shown (T : Txt mg) (Z : Cls K mg) (D : Def K mg "_law_shown" s_law_shown) (C_shown : CalleeE P w K mg base "shown" 5 (spShown Z.c_NoTrain Z.c_NoStand)) (C_law_a_kin : CalleeN P w K mg base "_law_a_kin" 1 (spKinG Z)) : Callee P w K mg base "_law_shown" 6 spLawShown := by
  refine D.ok sc_law_shown bd_law_shown (fun vs H Q E h => ?len) (fun f cdv A outer s H vs Q E hr h => ?body)
  case len => obtain ⟨a, b, ps, ws, hd, rfl, _⟩ := h; rfl
  case body =>
    obtain ⟨a, b, ps, ws, hd, rfl, hA, hB, z1, z2, z3, k⟩ := h
    have hu := hr.units
    refine ⟨_, (pss_cons (ps_set (i := 3) sc_law_shown.nd rfl (Or.inl rfl) pe_non)
 (pss_cons (ps_set (i := 4) sc_law_shown.nd rfl (Or.inl rfl) (pe_lst pa_nil))
 (pss_join (ps_try (TC := Z.c_TrainError) (j := 5) rfl rfl rfl Z.m_TrainError (by rfl) sc_law_shown.nd rfl rfl rfl (fun pins ξ Ex hp => (pss_one (ps_set (i := 3) sc_law_shown.nd rfl (Or.inl rfl) (pe_callS C_shown (hr.mono (by decide)) (by rfl) hp (pa_cons (pv 0) (pa_cons (pv 1) (pa_cons (pv 2) pa_nil))))))) (fun pins e => (pss_one (ps_set (i := 4) sc_law_shown.nd rfl (Or.inl rfl) (pe_callC C_law_a_kin ((hr.mono (by decide)).noted _) (by rfl) (pa_cons (pv 5) pa_nil))))))
 (pss_one (ps_ret (pe_tup (pa_cons (pv 3) (pa_cons (pv 4) pa_nil)))))))), ?_⟩
    dsimp only [tSeq, tAsg, gName, tOp, tUn, tTest, tB, tAnd, tOr, tNot, tAndV, tOrV, tNotV, tIf, tIfS, tRet, tRetN, tDrop, tNext, tCons, tNil, tCB, tCall, tMenu, tComp, tComp2, msk, List.zipWith, iZip2, iStr, iEnum, tNoIf, tTru, tJoin, cxOf_K, tLst, tTup, tSl, tPart, tNoPart, tBM, tBM0, tChain, tC, tFor_eq, gTup, gStar, gLst, gCons, gNil, gSub, iList, iRng1, iRng2, iRng3, iTup, tWhile, tRev, tRaise, tCallS, tTry, tAug, tPar, tNever, ipI, List.append_nil]
    try clear hu
    walk_at "st"
    intro l1 h1
    have s1 : Same H _ := same_upd (o := .lst []) h1
    have e1 : upd H l1 (.lst []) l1 = some (.lst []) := upd_same
    generalize upd H l1 (.lst []) = H1 at *
    walk_at "st"
    refine ⟨fun σ H8 => ∃ (v : V) (lk : Addr) (bs : List Bool) (u : Option V), σ = [some (.ref a), some (.int hd), some (.ref b), some v, some (.ref lk), u] ∧ Same H H8 ∧ H8 lk = some (.lst (bL bs)) ∧ SOut ps ws hd v bs, ?_, ?_⟩
    · walk_at "st"
      refine ⟨a, b, ps, ws, hd, rfl, s1 _ _ hA, s1 _ _ hB, z1, z2, z3, fun ht hs H8 s8 => ?_, ⟨fun hn H8 s8 => ?_, fun ht hn H8 s8 => ?_⟩⟩
      · walk_at "st"
        exact ⟨_, l1, [], _, rfl, s1.trans s8, s8 _ _ e1, .inr (.inr ⟨ht, hs, rfl, rfl⟩)⟩
      · refine ⟨Z.e_NoTrain, fun e he => ?_⟩
        walk_at "st"
        refine ⟨e, _, _, _, _, _, _, _, _, _, _, _, _, _, rfl, upd_same, kin_T Z, fun lk H9 s9 hk => ?_⟩
        exact ⟨_, lk, _, _, rfl, (s1.trans s8).trans ((same_upd he).trans s9), hk, .inl ⟨hn, rfl, due_T.symm⟩⟩
      · refine ⟨Z.e_NoStand, fun e he => ?_⟩
        walk_at "st"
        refine ⟨e, _, _, _, _, _, _, _, _, _, _, _, _, _, rfl, upd_same, kin_S Z, fun lk H9 s9 hk => ?_⟩
        exact ⟨_, lk, _, _, rfl, (s1.trans s8).trans ((same_upd he).trans s9), hk, .inr (.inl ⟨ht, hn, rfl, due_S.symm⟩)⟩
    rintro σ H8 ⟨v, lk, bs, u, rfl, s8, hk, hg⟩
    walk_at "st"
    intro t9 h9
    exact k t9 v lk bs _ (s8.trans (same_upd h9)) upd_same (same_upd h9 _ _ hk) hg
def spIsRead : Sp := fun vs H Q _ => ∃ (t t' lp lw lp' lw' : Addr) (ps ws : List Int) (hd : Int), vs = [.ref t, .ref t'] ∧ H t = some (.tup [.ref lp, .int hd, .ref lw]) ∧ H lp = some (.lst (iL ps)) ∧ H lw = some (.lst (iL ws)) ∧ H t' = some (.tup [.ref lp', .int hd, .ref lw']) ∧ H lp' = some (.lst (iL ps)) ∧ H lw' = some (.lst (iL ws)) ∧ ps.length ≤ 50000 ∧ ws.length ≤ 50000 ∧ ∀ H', Same H H' → Q (.bl true) H'
theorem ok_law_is_read (T : Txt mg) (D : Def K mg "_law_is_read" s_law_is_read) (C_law_whole : Callee P w K mg base "_law_whole" 1 spWhole) (C_law_a_places : Callee P w K mg base "_law_a_places" 2 spPlaces) : Callee P w K mg base "_law_is_read" 3 spIsRead := by
  refine D.ok sc_law_is_read bd_law_is_read (fun vs H Q E h => ?len) (fun f cdv A outer s H vs Q E hr h => ?body)
  case len => obtain ⟨t, t', lp, lw, lp', lw', ps, ws, hd, rfl, _⟩ := h; rfl
  case body =>
    obtain ⟨t, t', lp, lw, lp', lw', ps, ws, hd, rfl, hT, hP, hW, hT', hP', hW', l1, l2, k⟩ := h
    have hu := hr.units
    refine ⟨_, (pss_cons (ps_if (PW.pt (pw_or (pt_not (pt_truthK K (pe_callB (call_isinstanceK K) (by rfl) T.z_isinstance bt_isinstance (pa_cons (pv 0) (pa_cons (pe_bltn (by rfl) T.z_tuple bt_tuple (show RelV (.ty "tuple") _ from rfl)) pa_nil))))) (pw_or (pt_cmpR (op_neK K hu) (pv 0) (pv 1) (nomark _)) (pw_or1 (pt_not (pt_truthK K (pe_callN C_law_whole (hr.mono (by decide)) (by rfl) (pa_cons (pe_ix (ix_K K) (pv 0) pe_int (by exact fun _ _ => rfl)) pa_nil))))))))
 (pss_one (ps_ret pe_bl))
 pss_nil)
 (pss_one (ps_ret (pe_and (pe_callN C_law_a_places (hr.mono (by decide)) (by rfl) (pa_cons (pe_ix (ix_K K) (pv 0) pe_int (by exact fun _ _ => rfl)) (pa_cons (pe_callB (call_lenK K) (by rfl) T.z_len bt_len (pa_cons (pe_ix (ix_K K) (pv 1) pe_int (by exact fun _ _ => rfl)) pa_nil)) pa_nil))) (pe_one (pe_callN C_law_a_places (hr.mono (by decide)) (by rfl) (pa_cons (pe_ix (ix_K K) (pv 0) pe_int (by exact fun _ _ => rfl)) (pa_cons (pe_callB (call_lenK K) (by rfl) T.z_len bt_len (pa_cons (pe_ix (ix_K K) (pv 1) pe_int (by exact fun _ _ => rfl)) pa_nil)) pa_nil)))))))), ?_⟩
    dsimp only [tSeq, tAsg, gName, tOp, tUn, tTest, tB, tAnd, tOr, tNot, tAndV, tOrV, tNotV, tIf, tIfS, tRet, tRetN, tDrop, tNext, tCons, tNil, tCB, tCall, tMenu, tComp, tComp2, msk, List.zipWith, iZip2, iStr, iEnum, tNoIf, tTru, tJoin, cxOf_K, tLst, tTup, tSl, tPart, tNoPart, tBM, tBM0, tChain, tC, tFor_eq, gTup, gStar, gLst, gCons, gNil, gSub, iList, iRng1, iRng2, iRng3, iTup, tWhile, tRev, tRaise, tCallS, tTry, tAug, tPar, tNever, ipI, List.append_nil]
    try clear hu
    walk_at "st"
    refine i_isiTT hT ?_
    walk_at "st"
    refine i_neSame (.tuple [pL ps, .int hd, pL ws]) (pd_tup (SqT.of hT) (.cons (pd_ints (SqL.of hP)) (.cons pd_int (.cons (pd_ints (SqL.of hW)) .nil)))) (pd_tup (SqT.of hT') (.cons (pd_ints (SqL.of hP')) (.cons pd_int (.cons (pd_ints (SqL.of hW')) .nil)))) ?_
    walk_at "st"
    refine i_ixT (SqT.of hT) (by decide) rfl ?_
    walk_at "st"
    refine ⟨_, rfl, ?_⟩
    walk_at "st"
    refine i_ixT (SqT.of hT) (by decide) rfl ?_
    walk_at "st"
    refine i_ixT (SqT.of hT') (by decide) rfl ?_
    walk_at "st"
    refine i_lenI (SqL.of hP') ?_
    walk_at "st"
    refine ⟨lp, ps, _, rfl, hP, rfl, l1, fun H2 s2 => ?_⟩
    walk_at "st"
    refine i_ixT (SqT.of (s2 _ _ hT)) (by decide) rfl ?_
    walk_at "st"
    refine i_ixT (SqT.of (s2 _ _ hT')) (by decide) rfl ?_
    walk_at "st"
    refine i_lenI (SqL.of (s2 _ _ hW')) ?_
    walk_at "st"
    refine ⟨lw, ws, _, rfl, s2 _ _ hW, rfl, l2, fun H3 s3 => ?_⟩
    exact k _ (s2.trans s3)

--SPLIT
def tot (qs : List Str) : Nat := (qs.map (·.length)).sum + qs.length
theorem tot_app (a b : List Str) : tot (a ++ b) = tot a + tot b := by
  unfold tot
  rw [List.map_append, List.sum_append, List.length_append]
  omega
theorem tot_cut (qs : List Str) (n : Nat) : tot (qs.take n) + tot (qs.drop n) = tot qs := by rw [← tot_app, List.take_append_drop]
theorem tot_join (qs : List Str) : (Str.join ⟨#[32]⟩ qs).length ≤ tot qs := by
  cases qs with
  | nil => exact Nat.zero_le _
  | cons a r =>
    have := join_len ⟨#[32]⟩ (ss := a :: r) (by simp)
    rw [show (⟨#[32]⟩ : Str).length = 1 from rfl, Nat.mul_one] at this
    unfold tot
    omega
theorem tot_drop1 (qs : List Str) (n : Nat) : tot (qs.drop (n + 1)) ≤ tot (qs.drop n) := by
  have := tot_cut (qs.drop n) 1
  rw [List.drop_drop] at this
  omega
theorem asc_to {x : Str} (h : Asc x) {j : Int} (hj : 0 ≤ j) : Asc (Txt.slice x none (some j)) := fun c hc => by
  rw [txt_to x hj] at hc
  exact h c (List.mem_of_mem_take hc)
theorem asc_from {x : Str} (h : Asc x) {j : Int} (hj : 0 ≤ j) : Asc (Txt.slice x (some j) none) := fun c hc => by
  rw [txt_from x hj] at hc
  exact h c (List.mem_of_mem_drop hc)
def spSpoil31 : Sp := fun vs H Q _ => ∃ (text : Str) (c : Addr) (pk : List Int), vs = [.str text, .ref c] ∧ H c = some (.lst (iL pk)) ∧ pk.length = 4 ∧ (∀ p ∈ pk, 0 ≤ p) ∧ Asc text ∧ text.length ≤ 9000 ∧ ∀ y H', Same H H' → Asc y → y.length ≤ 2 * text.length + 2 → Q (.str y) H'
theorem ok_law_spoilt (T : Txt mg) (D : Def K mg "_law_spoilt" s_law_spoilt) : Callee P w K mg base "_law_spoilt" 1 spSpoil31 := by
  refine D.ok sc_law_spoilt bd_law_spoilt (fun vs H Q E h => ?len) (fun f cdv A outer s H vs Q E hr h => ?body)
  case len => obtain ⟨text, c, pk, rfl, _⟩ := h; rfl
  case body =>
    obtain ⟨text, c, pk, rfl, hC, hpk, hp0, hA, hl, k⟩ := h
    have hu := hr.units
    refine ⟨_, (pss_cons (ps_set (i := 2) sc_law_spoilt.nd rfl (Or.inl rfl) pe_str)
 (pss_cons (ps_set (i := 3) sc_law_spoilt.nd rfl (Or.inl rfl) pe_str)
 (pss_join (ps_set (i := 4) sc_law_spoilt.nd rfl (Or.inl rfl) (pe_menu (pa_cons (pe_ix (ix_Q (K := K)) (pv 2) (pe_op op_mod (pe_ix (ix_Q (K := K)) (pv 1) pe_int (by exact fun _ _ => rfl)) pe_int) (by exact fun _ _ => rfl)) (pa_cons (pe_ix (ix_Q (K := K)) (pv 3) (pe_op op_mod (pe_ix (ix_Q (K := K)) (pv 1) pe_int (by exact fun _ _ => rfl)) pe_int) (by exact fun _ _ => rfl)) pa_nil)) (pe_op op_mod (pe_ix (ix_Q (K := K)) (pv 1) pe_int (by exact fun _ _ => rfl)) pe_int) (by exact fun _ _ => rfl)))
 (pss_cons (ps_set (i := 5) sc_law_spoilt.nd rfl (Or.inl rfl) (pe_op op_mod (pe_ix (ix_Q (K := K)) (pv 1) pe_int (by exact fun _ _ => rfl)) (pe_op op_addQ (pe_callB (call_lenK K) (by rfl) T.z_len bt_len (pa_cons (pv 0) pa_nil)) pe_int)))
 (pss_join (ps_if (pt_cmpR (op_eqK K hu) (pe_op op_mod (pe_ix (ix_Q (K := K)) (pv 1) pe_int (by exact fun _ _ => rfl)) pe_int) pe_int (nomark _))
 (pss_cons (by exact ps_setC (i := 6) sc_law_spoilt.nd rfl (Or.inl rfl) (N := ["k", "text"]) (fr := [none, some 0]) ⟨by rfl, by decide +kernel, by decide +kernel, (show ∀ y ∈ (_ : List (Str × NameKind)), y.2 = NameKind.free → (defScope s_law_spoilt).names.lookup y.1 = some .cell ∨ (defScope s_law_spoilt).names.lookup y.1 = some .free by decide +kernel), (fr_none (fr_some (by rfl) (by first | exact Or.inl rfl | exact Or.inr rfl) (by rfl) fr_nil))⟩ (by rfl) (pi_range1 (by rfl) T.z_range (pa_cons (pe_callB (call_lenK K) (by rfl) T.z_len bt_len (pa_cons (pv 0) pa_nil)) pa_nil)) (fun _ _ _ _ => (pg_name (i := 0) (show List.Nodup (["k", "text"] : List Str) by decide) (by rfl) (by first | exact Or.inl rfl | exact Or.inr rfl))) (fun _ _ _ _ => (pifs_one (pt_cmpR (op_inQ (K := K)) (pe_ix (ix_Q (K := K)) (pv 1) (pv 0) (by exact fun _ _ => rfl)) pe_str (by rfl)))) (fun _ _ _ _ => (pv 0)) (gw_name (by rfl)))
 (pss_one (ps_set (i := 5) sc_law_spoilt.nd rfl (Or.inl rfl) (pe_ix (ix_Q (K := K)) (pe_op op_addQ (pe_op op_addQ (pe_lst (pa_cons pe_int (pa_cons (pe_callB (call_lenK K) (by rfl) T.z_len bt_len (pa_cons (pv 0) pa_nil)) pa_nil))) (pv 6)) (by exact pe_comp (N := ["k"]) (fr := [none]) ⟨by rfl, by decide +kernel, by decide +kernel, (show ∀ y ∈ (_ : List (Str × NameKind)), y.2 = NameKind.free → (defScope s_law_spoilt).names.lookup y.1 = some .cell ∨ (defScope s_law_spoilt).names.lookup y.1 = some .free by decide +kernel), (fr_none fr_nil)⟩ (by rfl) (pi_listK K (pv 6)) (fun _ _ _ _ => (pg_name (i := 0) (show List.Nodup (["k"] : List Str) by decide) (by rfl) (by first | exact Or.inl rfl | exact Or.inr rfl))) (fun _ _ _ _ => pifs_nil) (fun _ _ _ _ => (pe_op op_addQ (pv 0) pe_int)) (gw_name (by rfl)))) (pe_op op_mod (pe_ix (ix_Q (K := K)) (pv 1) pe_int (by exact fun _ _ => rfl)) (pe_op op_addQ pe_int (pe_op op_mulQ pe_int (pe_callB (call_lenK K) (by rfl) T.z_len bt_len (pa_cons (pv 6) pa_nil))))) (by exact fun _ _ => rfl)))))
 pss_nil)
 (pss_cons (ps_set (i := 7) sc_law_spoilt.nd rfl (Or.inl rfl) (pe_bmK K PySem.F.plainAttrs_str PySem.F.slot_str_split PySem.F.type_str_split mt_split (pv 0) (pa_cons pe_str pa_nil)))
 (pss_join (ps_set (i := 8) sc_law_spoilt.nd rfl (Or.inl rfl) (pe_op op_mod (pe_ix (ix_Q (K := K)) (pv 1) pe_int (by exact fun _ _ => rfl)) (pe_callB (call_lenK K) (by rfl) T.z_len bt_len (pa_cons (pv 7) pa_nil))))
 (pss_cons (ps_if (pt_cmpR (op_eqK K hu) (pe_op op_mod (pe_op op_fdiv (pe_ix (ix_Q (K := K)) (pv 1) pe_int (by exact fun _ _ => rfl)) pe_int) pe_int) pe_int (nomark _))
 (pss_one (ps_ret (pe_op op_addQ (pe_slice (sl_Q (K := K)) (pv 0) po_none (po_some (pv 5))) (pe_slice (sl_Q (K := K)) (pv 0) (po_some (pe_op op_addQ (pv 5) pe_int)) po_none))))
 pss_nil)
 (pss_cons (ps_if (pt_cmpR (op_eqK K hu) (pe_op op_mod (pe_op op_fdiv (pe_ix (ix_Q (K := K)) (pv 1) pe_int (by exact fun _ _ => rfl)) pe_int) pe_int) pe_int (nomark _))
 (pss_one (ps_ret (pe_op op_addQ (pe_op op_addQ (pe_slice (sl_Q (K := K)) (pv 0) po_none (po_some (pv 5))) (pv 4)) (pe_slice (sl_Q (K := K)) (pv 0) (po_some (pe_op op_addQ (pv 5) pe_int)) po_none))))
 pss_nil)
 (pss_cons (ps_if (pt_cmpR (op_eqK K hu) (pe_op op_mod (pe_op op_fdiv (pe_ix (ix_Q (K := K)) (pv 1) pe_int (by exact fun _ _ => rfl)) pe_int) pe_int) pe_int (nomark _))
 (pss_one (ps_ret (pe_op op_addQ (pe_op op_addQ (pe_slice (sl_Q (K := K)) (pv 0) po_none (po_some (pv 5))) (pv 4)) (pe_slice (sl_Q (K := K)) (pv 0) (po_some (pv 5)) po_none))))
 pss_nil)
 (pss_cons (ps_if (pt_cmpR (op_eqK K hu) (pe_op op_mod (pe_op op_fdiv (pe_ix (ix_Q (K := K)) (pv 1) pe_int (by exact fun _ _ => rfl)) pe_int) pe_int) pe_int (nomark _))
 (pss_one (ps_ret (pe_bmK K PySem.F.plainAttrs_str PySem.F.slot_str_join PySem.F.type_str_join (mt_joinK K) pe_str (pa_cons (pe_op op_addQ (pe_slice (sl_Q (K := K)) (pv 7) po_none (po_some (pv 8))) (pe_slice (sl_Q (K := K)) (pv 7) (po_some (pe_op op_addQ (pv 8) pe_int)) po_none)) pa_nil))))
 pss_nil)
 (pss_one (ps_ret (pe_bmK K PySem.F.plainAttrs_str PySem.F.slot_str_join PySem.F.type_str_join (mt_joinK K) pe_str (pa_cons (pe_op op_addQ (pe_op op_addQ (pe_slice (sl_Q (K := K)) (pv 7) po_none (po_some (pv 8))) (pe_slice (sl_Q (K := K)) (pv 7) (po_some (pv 8)) (po_some (pe_op op_addQ (pv 8) pe_int)))) (pe_slice (sl_Q (K := K)) (pv 7) (po_some (pv 8)) po_none)) pa_nil))))))))))))))), ?_⟩
    dsimp only [tSeq, tAsg, gName, tOp, tUn, tTest, tB, tAnd, tOr, tNot, tAndV, tOrV, tNotV, tIf, tIfS, tRet, tRetN, tDrop, tNext, tCons, tNil, tCB, tCall, tMenu, tComp, tComp2, msk, List.zipWith, iZip2, iStr, iEnum, tNoIf, tTru, tJoin, cxOf_K, tLst, tTup, tSl, tPart, tNoPart, tBM, tBM0, tChain, tC, tFor_eq, gTup, gStar, gLst, gCons, gNil, gSub, iList, iRng1, iRng2, iRng3, iTup, tWhile, tRev, tRaise, tCallS, tTry, tAug, tPar, tNever, ipI, List.append_nil]
    try clear hu
    have it : ∀ {Q' : VK} {H' : Hp} {j : Int}, Same H H' → 0 ≤ j → j < 4 → (∀ v, 0 ≤ v → Q' (.int v) H') → rIxQ K (.ref c) (.int j) H' Q' := fun e h0 h1 q => .inl (i_ixL (SqL.of (e _ _ hC)) h0 (by omega) fun v _ m => q v (hp0 v m))
    walk_at "st"
    have ch : ∀ {Q' : VK} {H' : Hp} {S : Str} {j m : Int}, 0 ≤ j → j < m → m ≤ S.length → S.length ≤ 1000 → Asc S → (∀ y, Asc y → y.length = 1 → Q' (.str y) H') → rIxQ K (.str S) (.int j) H' Q' := fun {Q'} {H'} {S} {j} {m} h0 h1 h2 h3 h4 q => by
      have hj : j.toNat < (sg S).length := by rw [sg_len]; omega
      refine i_ixS (by omega) h0 (c := (sg S)[j.toNat]) (List.getElem?_eq_getElem hj) (q _ (fun d hd => ?_) rfl)
      have : d = (sg S)[j.toNat] := by simpa using hd
      rw [this]
      exact h4 _ (List.getElem_mem hj)
    refine ⟨fun σ H1 => ∃ (u2 u3 : Option V) (y : Str), σ = [some (.str text), some (.ref c), u2, u3, some (.str y), none, none, none, none] ∧ Asc y ∧ y.length = 1 ∧ H = H1, ?_, ?_⟩
    · walk_at "st"
      refine it (Same.refl _) (by decide) (by decide) (fun v1 z1 => ?_)
      walk_at "st"
      refine ch (m := 96) (Int.emod_nonneg _ (by decide)) (Int.emod_lt_of_pos _ (by decide)) (by decide +kernel) (by decide +kernel) (by decide +kernel) (fun y1 a1 b1 => ?_)
      walk_at "st"
      refine it (Same.refl _) (by decide) (by decide) (fun v2 z2 => ?_)
      walk_at "st"
      refine ch (m := 8) (Int.emod_nonneg _ (by decide)) (Int.emod_lt_of_pos _ (by decide)) (by decide +kernel) (by decide +kernel) (by decide +kernel) (fun y2 a2 b2 => ?_)
      walk_at "st"
      refine it (Same.refl _) (by decide) (by decide) (fun v3 z3 => ?_)
      walk_at "st"
      have r1 := Int.emod_nonneg v3 (show (2 : Int) ≠ 0 by decide)
      have r2 := Int.emod_lt_of_pos v3 (show (0 : Int) < 2 by decide)
      generalize v3 % 2 = i at *
      rcases (show i = 0 ∨ i = 1 by omega) with rfl | rfl
      · exact ⟨0, _, rfl, rfl, _, _, y1, rfl, a1, b1, rfl⟩
      · exact ⟨1, _, rfl, rfl, _, _, y2, rfl, a2, b2, rfl⟩
    rintro σ H1 ⟨u2, u3, y, rfl, hy1, hy2, rfl⟩
    clear ch
    walk_at "st"
    refine it (Same.refl _) (by decide) (by decide) (fun v0 z0 => ?_)
    walk_at "st"
    refine i_lenS (by omega) ?_
    walk_at "st"
    refine i_addQI ?_
    walk_at "st"
    have r3 := Int.emod_nonneg v0 (show (text.length : Int) + 1 ≠ 0 by omega)
    have r4 := Int.emod_lt_of_pos v0 (show (0 : Int) < (text.length : Int) + 1 by omega)
    generalize v0 % ((text.length : Int) + 1) = at0 at *
    refine ⟨fun σ H1 => ∃ (u6 : Option V) (a : Int), σ = [some (.str text), some (.ref c), u2, u3, some (.str y), some (.int a), u6, none, none] ∧ 0 ≤ a ∧ a ≤ text.length ∧ Same H H1, ?_, ?_⟩
    · walk_at "st"
      refine it (Same.refl _) (by decide) (by decide) (fun v3 z3 => ?_)
      walk_at "st"
      refine i_if (fun g => ?_) (fun g => ?_)
      · walk_at "st"
        refine i_lenS (by omega) ?_
        walk_at "st"
        refine ⟨by omega, by omega, cp_range (fun i ys H2 => ∃ mk : List Int, ys = iL mk ∧ H = H2 ∧ mk.length ≤ i ∧ ∀ m ∈ mk, 0 ≤ m ∧ m < text.length) ⟨[], rfl, rfl, Nat.le_refl _, fun m hm => by cases hm⟩ ?_ (szlt (by omega)) ?_ ?_⟩
        · rintro i ys H2 ⟨mk, rfl, rfl, hm, _⟩
          simpa [iL] using hm
        · rintro i ys H2 hi ⟨mk, rfl, rfl, hm, hin⟩
          have hj : (0 + (i : Int)).toNat < (sg text).length := by rw [sg_len]; omega
          walk_at "st"
          refine i_ixS (by omega) (by omega) (c := (sg text)[(0 + (i : Int)).toNat]) (List.getElem?_eq_getElem hj) ?_
          walk_at "st"
          refine i_inC ?_
          walk_at "st"
          refine i_if (fun g9 => ?_) (fun g9 => ?_)
          · walk_at "st"
            refine ⟨mk ++ [0 + (i : Int)], by simp [iL], rfl, by simp; omega, fun m hm' => ?_⟩
            rcases List.mem_append.mp hm' with z | z
            · exact hin m z
            · have : m = 0 + (i : Int) := by simpa using z
              omega
          · exact ⟨mk, rfl, rfl, by omega, hin⟩
        rintro lm ys H2 ⟨mk, rfl, rfl, hm, hin⟩ hlm
        have e2 : upd H lm (.lst (iL mk)) lm = some (.lst (iL mk)) := upd_same
        have s2 : Same H _ := same_upd (o := .lst (iL mk)) hlm
        generalize upd H lm (.lst (iL mk)) = H2 at *
        have hmk : mk.length ≤ 9000 := by omega
        walk_at "st"
        refine i_lenS (by omega) ?_
        walk_at "st"
        intro l3 h3
        have e3 : upd H2 l3 (.lst [.int 0, .int text.length]) l3 = some (.lst (iL [0, (text.length : Int)])) := upd_same
        have s3 : Same H2 _ := same_upd (o := .lst [.int 0, .int text.length]) h3
        generalize upd H2 l3 (.lst [.int 0, .int text.length]) = H3 at *
        walk_at "st"
        refine .inl (i_addL e3 (s3 _ _ e2) (szl (by simp [iL]; omega)) (fun l4 h4 => ?_))
        have e4 : upd H3 l4 (.lst (iL [0, (text.length : Int)] ++ iL mk)) l4 = some (.lst (iL ([0, (text.length : Int)] ++ mk))) := by rw [upd_same]; simp [iL]
        have s4 : Same H3 _ := same_upd (o := .lst (iL [0, (text.length : Int)] ++ iL mk)) h4
        generalize upd H3 l4 (.lst (iL [0, (text.length : Int)] ++ iL mk)) = H4 at *
        have f4 := s4 _ _ (s3 _ _ e2)
        walk_at "st"
        refine ⟨⟨_, SqL.of f4⟩, cp_list (xs := iL mk) (fun i ys H5 => ys = iL ((mk.take i).map (· + 1)) ∧ H4 = H5) ⟨rfl, rfl⟩ ?_ (szlt (by simp [iL]; omega)) ?_ ?_⟩
        · rintro i ys H5 ⟨rfl, rfl⟩
          exact ⟨SqL.of f4, by simp [iL]; omega⟩
        · rintro i x ys H5 hx ⟨rfl, rfl⟩
          unfold iL at hx
          rw [List.getElem?_map] at hx
          obtain ⟨q, hq, rfl⟩ := Option.map_eq_some_iff.mp hx
          walk_at "st"
          refine i_addQI ?_
          refine ⟨?_, rfl⟩
          rw [take_snoc_get hq]
          simp [iL]
        rintro l5 ys H5 ⟨rfl, rfl⟩ h5
        rw [show (iL mk).length = mk.length by simp [iL], List.take_of_length_le (Nat.le_refl _)]
        have e5 : upd H4 l5 (.lst (iL (mk.map (· + 1)))) l5 = some (.lst (iL (mk.map (· + 1)))) := upd_same
        have s5 : Same H4 _ := same_upd (o := .lst (iL (mk.map (· + 1)))) h5
        generalize upd H4 l5 (.lst (iL (mk.map (· + 1)))) = H5 at *
        refine .inl (i_addL (s5 _ _ e4) e5 (szl (by simp [iL]; omega)) (fun l6 h6 => ?_))
        have e6 : upd H5 l6 (.lst (iL ([0, (text.length : Int)] ++ mk) ++ iL (mk.map (· + 1)))) l6 = some (.lst (iL ([0, (text.length : Int)] ++ mk ++ mk.map (· + 1)))) := by rw [upd_same]; simp [iL]
        have s6 : Same H5 _ := same_upd (o := .lst (iL ([0, (text.length : Int)] ++ mk) ++ iL (mk.map (· + 1)))) h6
        generalize upd H5 l6 (.lst (iL ([0, (text.length : Int)] ++ mk) ++ iL (mk.map (· + 1)))) = H6 at *
        have S6 := s2.trans (s3.trans (s4.trans (s5.trans s6)))
        walk_at "st"
        refine it S6 (by decide) (by decide) (fun w0 y0 => ?_)
        walk_at "st"
        refine i_lenI (SqL.of (s6 _ _ (s5 _ _ f4))) ?_
        walk_at "st"
        refine i_mulQI (cmul_l (by decide) (by decide)) ?_
        walk_at "st"
        refine i_addQI ?_
        walk_at "st"
        have r5 := Int.emod_nonneg w0 (show 2 + 2 * (mk.length : Int) ≠ 0 by omega)
        have r6 := Int.emod_lt_of_pos w0 (show (0 : Int) < 2 + 2 * (mk.length : Int) by omega)
        refine .inl (i_ixL (SqL.of e6) r5 (by simp; omega) (fun v _ hv => ?_))
        refine ⟨_, v, rfl, ?_, ?_, S6⟩
        · simp only [List.mem_append, List.mem_cons, List.mem_map, List.not_mem_nil, or_false] at hv
          rcases hv with ((rfl | rfl) | z) | ⟨q, z, rfl⟩
          · omega
          · omega
          · have := hin v z; omega
          · have := hin q z; omega
        · simp only [List.mem_append, List.mem_cons, List.mem_map, List.not_mem_nil, or_false] at hv
          rcases hv with ((rfl | rfl) | z) | ⟨q, z, rfl⟩
          · omega
          · omega
          · have := hin v z; omega
          · have := hin q z; omega
      · walk_at "st"
        exact ⟨_, at0, rfl, r3, by omega, Same.refl _⟩
    rintro σ H1 ⟨u6, a, rfl, ha1, ha2, s1⟩
    walk_at "st"
    have hP := split_ok text 32
    refine ⟨rfl, text, ⟨#[32]⟩, rfl, rfl, rfl, by omega, ?_, fun l2 h2 => ?_⟩
    · have := hP.sum
      omega
    have hPs : tot (Txt.split text ⟨#[32]⟩) = text.length + 1 := hP.sum
    have hPa := hP.asc hA
    have hPn := List.length_pos_iff.mpr hP.ne
    have hPc : (Txt.split text ⟨#[32]⟩).length ≤ text.length + 1 := by have := hP.sum; omega
    generalize Txt.split text ⟨#[32]⟩ = ss at *
    have e2 : upd H1 l2 (.lst (ss.map V.str)) l2 = some (.lst (ss.map V.str)) := upd_same
    have s2 : Same H _ := s1.trans (same_upd (o := .lst (ss.map V.str)) h2)
    generalize upd H1 l2 (.lst (ss.map V.str)) = H2 at *
    clear s1 h2
    refine ⟨fun σ H3 => ∃ kk : Int, σ = [some (.str text), some (.ref c), u2, u3, some (.str y), some (.int a), u6, some (.ref l2), some (.int kk)] ∧ 0 ≤ kk ∧ H2 = H3, ?_, ?_⟩
    · walk_at "st"
      refine it s2 (by decide) (by decide) (fun w0 y0 => ?_)
      walk_at "st"
      refine i_len (SqL.of e2) ?_
      rw [List.length_map]
      walk_at "st"
      exact ⟨Int.emod_nonneg _ (by omega), rfl⟩
    rintro σ H3 ⟨kk, rfl, hk0, rfl⟩
    have sl1 := Txt.slice_le text none (some a)
    have sl2 := Txt.slice_le text (some (a + 1)) none
    have sl3 := Txt.slice_le text (some a) none
    have as1 := asc_to hA ha1
    have as2 := asc_from hA (show 0 ≤ a + 1 by omega)
    have as3 := asc_from hA ha1
    have apl := app_len (Txt.slice text none (some a)) y
    walk_at "st"
    refine it s2 (by decide) (by decide) (fun w2 y2 => ?_)
    walk_at "st"
    refine i_if (fun g => ?_) (fun g => ?_)
    · walk_at "st"
      refine i_slS (by omega) ?_
      walk_at "st"
      refine i_addQI ?_
      walk_at "st"
      refine i_slS (by omega) ?_
      refine i_addQS (by omega) ?_
      exact k _ _ s2 (as1.app as2) (by rw [app_len]; omega)
    clear g
    walk_at "st"
    refine it s2 (by decide) (by decide) (fun w2 y2 => ?_)
    walk_at "st"
    refine i_if (fun g => ?_) (fun g => ?_)
    · walk_at "st"
      refine i_slS (by omega) ?_
      walk_at "st"
      refine i_addQS (by omega) ?_
      walk_at "st"
      refine i_addQI ?_
      walk_at "st"
      refine i_slS (by omega) ?_
      refine i_addQS (by omega) ?_
      exact k _ _ s2 ((as1.app hy1).app as2) (by rw [app_len]; omega)
    clear g
    walk_at "st"
    refine it s2 (by decide) (by decide) (fun w2 y2 => ?_)
    walk_at "st"
    refine i_if (fun g => ?_) (fun g => ?_)
    · walk_at "st"
      refine i_slS (by omega) ?_
      walk_at "st"
      refine i_addQS (by omega) ?_
      walk_at "st"
      refine i_slS (by omega) ?_
      refine i_addQS (by omega) ?_
      exact k _ _ s2 ((as1.app hy1).app as3) (by rw [app_len]; omega)
    clear g
    have t1 := tot_cut ss kk.toNat
    have t2 := tot_drop1 ss kk.toNat
    have t3 := tot_cut (ss.drop kk.toNat) 1
    walk_at "st"
    refine it s2 (by decide) (by decide) (fun w2 y2 => ?_)
    walk_at "st"
    refine i_if (fun g => ?_) (fun g => ?_)
    · walk_at "st"
      refine ⟨rfl, ?_⟩
      walk_at "st"
      refine .inl ⟨l2, _, rfl, SqL.of e2, fun l3 h3 => ?_⟩
      rw [cut_to hk0, ← List.map_take]
      have e3 : upd H2 l3 (.lst ((ss.take kk.toNat).map V.str)) l3 = some (.lst ((ss.take kk.toNat).map V.str)) := upd_same
      have s3 : Same H2 _ := same_upd (o := .lst ((ss.take kk.toNat).map V.str)) h3
      generalize upd H2 l3 (.lst ((ss.take kk.toNat).map V.str)) = H3 at *
      walk_at "st"
      refine i_addQI ?_
      walk_at "st"
      refine .inl ⟨l2, _, rfl, SqL.of (s3 _ _ e2), fun l4 h4 => ?_⟩
      rw [cut_from (by omega), ← List.map_drop, show (kk + 1).toNat = kk.toNat + 1 by omega]
      have e4 : upd H3 l4 (.lst ((ss.drop (kk.toNat + 1)).map V.str)) l4 = some (.lst ((ss.drop (kk.toNat + 1)).map V.str)) := upd_same
      have s4 : Same H3 _ := same_upd (o := .lst ((ss.drop (kk.toNat + 1)).map V.str)) h4
      generalize upd H3 l4 (.lst ((ss.drop (kk.toNat + 1)).map V.str)) = H4 at *
      have hc1 : (ss.take kk.toNat).length + (ss.drop (kk.toNat + 1)).length ≤ 20000 := by
        rw [List.length_take, List.length_drop]
        omega
      refine .inl (i_addL (s4 _ _ e3) e4 (szl (by simp only [List.length_map]; omega)) (fun l5 h5 => ?_))
      rw [← List.map_append]
      have ht : tot (ss.take kk.toNat ++ ss.drop (kk.toNat + 1)) ≤ text.length + 1 := by rw [tot_app]; omega
      have ha : ∀ p ∈ ss.take kk.toNat ++ ss.drop (kk.toNat + 1), Asc p := fun p hp => by
        rcases List.mem_append.mp hp with z | z
        · exact hPa p (List.mem_of_mem_take z)
        · exact hPa p (List.mem_of_mem_drop z)
      generalize ss.take kk.toNat ++ ss.drop (kk.toNat + 1) = qs at *
      have hj := tot_join qs
      refine ⟨⟨#[32]⟩, l5, qs, rfl, rfl, SqL.of upd_same, ?_, ?_⟩
      · show (qs.map (·.length)).sum + qs.length * 1 ≤ _
        unfold tot at ht
        omega
      exact k _ _ (s2.trans (s3.trans (s4.trans (same_upd h5)))) (join_asc (by decide +kernel) ha) (by omega)
    · walk_at "st"
      refine ⟨rfl, ?_⟩
      walk_at "st"
      refine .inl ⟨l2, _, rfl, SqL.of e2, fun l3 h3 => ?_⟩
      rw [cut_to hk0, ← List.map_take]
      have e3 : upd H2 l3 (.lst ((ss.take kk.toNat).map V.str)) l3 = some (.lst ((ss.take kk.toNat).map V.str)) := upd_same
      have s3 : Same H2 _ := same_upd (o := .lst ((ss.take kk.toNat).map V.str)) h3
      generalize upd H2 l3 (.lst ((ss.take kk.toNat).map V.str)) = H3 at *
      walk_at "st"
      refine i_addQI ?_
      walk_at "st"
      refine .inl ⟨l2, _, rfl, SqL.of (s3 _ _ e2), fun l4 h4 => ?_⟩
      rw [cut_mid hk0 (by omega), ← List.map_drop, ← List.map_take, show (kk + 1).toNat - kk.toNat = 1 by omega]
      have e4 : upd H3 l4 (.lst (((ss.drop kk.toNat).take 1).map V.str)) l4 = some (.lst (((ss.drop kk.toNat).take 1).map V.str)) := upd_same
      have s4 : Same H3 _ := same_upd (o := .lst (((ss.drop kk.toNat).take 1).map V.str)) h4
      generalize upd H3 l4 (.lst (((ss.drop kk.toNat).take 1).map V.str)) = H4 at *
      have hc1 : (ss.take kk.toNat).length + ((ss.drop kk.toNat).take 1).length ≤ 20000 := by
        rw [List.length_take, List.length_take, List.length_drop]
        omega
      refine .inl (i_addL (s4 _ _ e3) e4 (szl (by simp only [List.length_map]; omega)) (fun l5 h5 => ?_))
      rw [← List.map_append]
      have e5 : upd H4 l5 (.lst ((ss.take kk.toNat ++ (ss.drop kk.toNat).take 1).map V.str)) l5 = some (.lst ((ss.take kk.toNat ++ (ss.drop kk.toNat).take 1).map V.str)) := upd_same
      have s5 : Same H4 _ := same_upd (o := .lst ((ss.take kk.toNat ++ (ss.drop kk.toNat).take 1).map V.str)) h5
      generalize upd H4 l5 (.lst ((ss.take kk.toNat ++ (ss.drop kk.toNat).take 1).map V.str)) = H5 at *
      walk_at "st"
      refine .inl ⟨l2, _, rfl, SqL.of (s5 _ _ (s4 _ _ (s3 _ _ e2))), fun l6 h6 => ?_⟩
      rw [cut_from hk0, ← List.map_drop]
      have e6 : upd H5 l6 (.lst ((ss.drop kk.toNat).map V.str)) l6 = some (.lst ((ss.drop kk.toNat).map V.str)) := upd_same
      have s6 : Same H5 _ := same_upd (o := .lst ((ss.drop kk.toNat).map V.str)) h6
      generalize upd H5 l6 (.lst ((ss.drop kk.toNat).map V.str)) = H6 at *
      have hc2 : (ss.take kk.toNat ++ (ss.drop kk.toNat).take 1).length + (ss.drop kk.toNat).length ≤ 40000 := by
        rw [List.length_append, List.length_drop]
        omega
      refine .inl (i_addL (s6 _ _ e5) e6 (szl (by simp only [List.length_map]; omega)) (fun l7 h7 => ?_))
      rw [← List.map_append]
      have ht : tot (ss.take kk.toNat ++ (ss.drop kk.toNat).take 1 ++ ss.drop kk.toNat) ≤ 2 * text.length + 2 := by rw [tot_app, tot_app]; omega
      have ha : ∀ p ∈ ss.take kk.toNat ++ (ss.drop kk.toNat).take 1 ++ ss.drop kk.toNat, Asc p := fun p hp => by
        rcases List.mem_append.mp hp with z | z
        · rcases List.mem_append.mp z with z | z
          · exact hPa p (List.mem_of_mem_take z)
          · exact hPa p (List.mem_of_mem_drop (List.mem_of_mem_take z))
        · exact hPa p (List.mem_of_mem_drop z)
      generalize ss.take kk.toNat ++ (ss.drop kk.toNat).take 1 ++ ss.drop kk.toNat = qs at *
      have hj := tot_join qs
      refine ⟨⟨#[32]⟩, l7, qs, rfl, rfl, SqL.of upd_same, ?_, ?_⟩
      · show (qs.map (·.length)).sum + qs.length * 1 ≤ _
        unfold tot at ht
        omega
      exact k _ _ (s2.trans (s3.trans (s4.trans (s5.trans (s6.trans (same_upd h7)))))) (join_asc (by decide +kernel) ha) (by omega)

--SPLIT
def spTrainB (K : PySem.W.Frag) : Sp := fun vs H Q _ => ∃ (a : Addr) (ns : List Int), vs = [.ref a] ∧ SqL K H a (iL ns) ∧
  ∀ t lp lw ps ws hd H', H t = none → NewI H H' lp ps → NewI H H' lw ws → lp ≠ lw → H' t = some (.tup [.ref lp, .int hd, .ref lw]) → isTr ps → stand ps hd ws → (∀ p ∈ ps, p ≤ 100000000000000000000) → -1000000000000000000000000000 ≤ hd → hd ≤ 1000000000000000000000000000 → Q (.ref t) H'
theorem ok_law_train (T : Txt mg) (D : Def K mg "_law_train" s_law_train) (C_law_draws : Callee P w K mg base "_law_draws" 1 spDraws) (C_law_cell_at : Callee P w K mg base "_law_cell_at" 1 (spCellAt K)) : Callee P w K mg base "_law_train" 2 (spTrainB K) := by
  refine D.ok sc_law_train bd_law_train (fun vs H Q E h => ?len) (fun f cdv A outer s H vs Q E hr h => ?body)
  case len => obtain ⟨a, ns, rfl, _⟩ := h; rfl
  case body =>
    obtain ⟨a, ns, rfl, hS, k⟩ := h
    refine ⟨_, (pss_cons (ps_set (i := 1) sc_law_train.nd rfl (Or.inl rfl) (pe_callN C_law_draws (hr.mono (by decide)) (by rfl) (pa_cons (pe_callN C_law_cell_at (hr.mono (by decide)) (by rfl) (pa_cons (pv 0) (pa_cons pe_int pa_nil))) (pa_cons pe_int (pa_cons pe_int pa_nil)))))
 (pss_cons (ps_set (i := 2) sc_law_train.nd rfl (Or.inl rfl) (pe_menu (pa_cons (pe_op op_addP pe_int (pe_op op_mod (pe_ix (ix_K K) (pv 1) pe_int (by exact fun _ _ => rfl)) pe_int)) (pa_cons (pe_op op_addP pe_int (pe_op op_mod (pe_ix (ix_K K) (pv 1) pe_int (by exact fun _ _ => rfl)) pe_int)) (pa_cons pe_int pa_nil))) (pe_op op_mod (pe_ix (ix_K K) (pv 1) pe_int (by exact fun _ _ => rfl)) pe_int) (by exact fun _ _ => rfl)))
 (pss_cons (ps_set (i := 3) sc_law_train.nd rfl (Or.inl rfl) (pe_menu (pa_cons pe_int (pa_cons pe_int (pa_cons (pe_powK (r := 100000000000000000000) (by decide)) (pa_cons pe_int pa_nil)))) (pe_op op_mod (pe_ix (ix_K K) (pv 1) pe_int (by exact fun _ _ => rfl)) pe_int) (by exact fun _ _ => rfl)))
 (pss_cons (ps_set (i := 4) sc_law_train.nd rfl (Or.inl rfl) (pe_callN C_law_draws (hr.mono (by decide)) (by rfl) (pa_cons (pe_callN C_law_cell_at (hr.mono (by decide)) (by rfl) (pa_cons (pv 0) (pa_cons pe_int pa_nil))) (pa_cons pe_int (pa_cons (pe_powK (r := 1000000000) (by decide)) pa_nil)))))
 (pss_cons (ps_set (i := 5) sc_law_train.nd rfl (Or.inl rfl) (pe_lst pa_nil))
 (pss_cons (ps_set (i := 6) sc_law_train.nd rfl (Or.inl rfl) (pe_lst pa_nil))
 (pss_cons (ps_set (i := 7) sc_law_train.nd rfl (Or.inl rfl) (pe_op op_mulP (pe_op op_sub (pe_ix (ix_K K) (pv 1) pe_int (by exact fun _ _ => rfl)) pe_int) (pe_menu (pa_cons pe_int (pa_cons pe_int (pa_cons (pe_powK (r := 1000000000000000000000000) (by decide)) pa_nil))) (pe_op op_mod (pe_ix (ix_K K) (pv 1) pe_int (by exact fun _ _ => rfl)) pe_int) (by exact fun _ _ => rfl))))
 (pss_cons (ps_set (i := 8) sc_law_train.nd rfl (Or.inl rfl) (pv 7))
 (pss_cons (ps_for PassesOwn.never rfl (pi_range1 (by rfl) T.z_range (pa_cons (pv 2) pa_nil)) (pg_name (i := 9) sc_law_train.nd rfl (Or.inl rfl))
 (pss_cons (ps_set (i := 10) sc_law_train.nd rfl (Or.inl rfl) (pe_op op_mod (pe_op op_mulP (pe_ix (ix_K K) (pv 4) (pv 9) (by exact fun _ _ => rfl)) (pe_op op_addP (pe_powK (r := 1000000000000) (by decide)) pe_int)) (pe_op op_addP (pv 3) pe_int)))
 (pss_join (ps_if (pt_cmpR op_gt (pe_op op_mod (pe_ix (ix_K K) (pv 4) (pv 9) (by exact fun _ _ => rfl)) pe_int) pe_int (nomark _))
 (pss_one (ps_set (i := 10) sc_law_train.nd rfl (Or.inl rfl) (pe_op op_mod (pe_ix (ix_K K) (pv 4) (pv 9) (by exact fun _ _ => rfl)) (pe_op op_addP (pv 3) pe_int))))
 pss_nil)
 (pss_cons (ps_set (i := 11) sc_law_train.nd rfl (Or.inl rfl) (pe_menu (pa_cons (pe_op op_sub pe_int (pv 10)) (pa_cons (pv 10) (pa_cons (pe_op op_sub (pe_op op_mod (pe_op op_mulP (pe_ix (ix_K K) (pv 4) (pe_op op_addP pe_int (pv 9)) (by exact fun _ _ => rfl)) (pe_op op_addP (pe_powK (r := 1000000000000) (by decide)) pe_int)) (pe_op op_addP (pe_op op_mulP pe_int (pv 10)) pe_int)) (pv 10)) pa_nil))) (pe_op op_mod (pe_ix (ix_K K) (pv 4) (pe_op op_addP pe_int (pv 9)) (by exact fun _ _ => rfl)) pe_int) (by exact fun _ _ => rfl)))
 (pss_cons (ps_expr (pe_bmK K PySem.F.plainAttrs_list PySem.F.slot_list_append PySem.F.type_list_append mt_append (pv 5) (pa_cons (pv 10) pa_nil)))
 (pss_cons (ps_set (i := 8) sc_law_train.nd rfl (Or.inl rfl) (pe_op op_addP (pv 8) (pv 11)))
 (pss_one (ps_expr (pe_bmK K PySem.F.plainAttrs_list PySem.F.slot_list_append PySem.F.type_list_append mt_append (pv 6) (pa_cons (pv 8) pa_nil))))))))))
 (pss_one (ps_ret (pe_tup (pa_cons (pv 5) (pa_cons (pv 7) (pa_cons (pv 6) pa_nil))))))))))))))), ?_⟩
    dsimp only [tSeq, tAsg, gName, tOp, tUn, tTest, tB, tAnd, tOr, tNot, tAndV, tOrV, tNotV, tIf, tIfS, tRet, tRetN, tDrop, tNext, tCons, tNil, tCB, tCall, tMenu, tComp, tComp2, msk, List.zipWith, iZip2, iStr, iEnum, tNoIf, tTru, tJoin, cxOf_K, tLst, tTup, tSl, tPart, tNoPart, tBM, tBM0, tChain, tC, tFor_eq, gTup, gStar, gLst, gCons, gNil, gSub, iList, iRng1, iRng2, iRng3, iTup, tWhile, tRev, tRaise, tCallS, tTry, tAug, tPar, tNever, ipI, List.append_nil]
    try clear hu
    walk_at "st"
    refine ⟨a, ns, 0, rfl, hS, by decide, fun c0 => ?_⟩
    walk_at "st"
    refine ⟨c0, 6, 1000, rfl, by decide, by decide, by decide, by decide, fun lh H1 hs N1 l1 b1 => ?_⟩
    have q1 := SqL.of (K := K) N1.at_
    walk_at "st"
    refine i_ixL q1 (by omega) (by omega) (fun v0 _ m0 => ?_)
    walk_at "st"
    refine i_ixL q1 (by omega) (by omega) (fun v0' _ m0' => ?_)
    walk_at "st"
    refine i_ixL q1 (by omega) (by omega) (fun v1 _ m1 => ?_)
    walk_at "st"
    have e1 := Int.emod_nonneg v0 (show (12 : Int) ≠ 0 by decide)
    have e2 := Int.emod_lt_of_pos v0 (show (0 : Int) < 12 by decide)
    have e3 := Int.emod_nonneg v0' (show (4 : Int) ≠ 0 by decide)
    have e4 := Int.emod_lt_of_pos v0' (show (0 : Int) < 4 by decide)
    refine i_menu3 (Int.emod_nonneg _ (by decide)) (Int.emod_lt_of_pos _ (by decide)) (fun many hm => ?_)
    have hmany : 1 ≤ many ∧ many ≤ 12 := by omega
    clear hm e1 e2 e3 e4
    walk_at "st"
    refine i_ixL q1 (by omega) (by omega) (fun v2 _ m2 => ?_)
    walk_at "st"
    refine i_menu4 (Int.emod_nonneg _ (by decide)) (Int.emod_lt_of_pos _ (by decide)) (fun far hf => ?_)
    have hfar : 0 ≤ far ∧ far ≤ 100000000000000000000 := by omega
    clear hf
    walk_at "st"
    refine ⟨a, ns, 1, rfl, N1.sm.seq hS, by decide, fun c1 => ?_⟩
    walk_at "st"
    refine ⟨c1, 36, 1000000000, rfl, by decide, by decide, by decide, by decide, fun lq H2 pk N2 l2 b2 => ?_⟩
    have q2 := SqL.of (K := K) N2.at_
    have q1' := N2.sm.seq q1
    walk_at "st"
    intro lp hp
    walk_at "st"
    intro lw hw
    walk_at "st"
    have s3 : Same H2 (upd (upd H2 lp (.lst [])) lw (.lst [])) := (same_upd hp).trans (same_upd hw)
    refine i_ixL (s3.seq q1') (by omega) (by omega) (fun v3 _ m3 => ?_)
    have hb3 := b1 _ m3
    walk_at "st"
    refine i_ixL (s3.seq q1') (by omega) (by omega) (fun v4 _ m4 => ?_)
    walk_at "st"
    refine i_menu3 (Int.emod_nonneg _ (by decide)) (Int.emod_lt_of_pos _ (by decide)) (fun sc hsc => ?_)
    refine i_mulI (cmul_l (by omega) (by omega)) ?_
    have hhd : -1000000000000000000000000000 ≤ (v3 - 500) * sc ∧ (v3 - 500) * sc ≤ 1000000000000000000000000000 := by
      rcases hsc with ⟨_, rfl⟩ | ⟨_, rfl⟩ | ⟨_, rfl⟩ <;> omega
    clear hsc
    generalize (v3 - 500) * sc = hd at *
    walk_at "st"
    have hne : lp ≠ lw := ne_of_none upd_same hw
    have hpf : H lp = none := (N1.sm.trans N2.sm).free hp
    have hwf : H lw = none := (N1.sm.trans N2.sm).free ((same_upd hp).free hw)
    refine ⟨by omega, by omega, lp_range (fun i σ H3 => ∃ (ah : Int) (u1 u2 u3 : Option V) (ps ws : List Int), σ = [some (.ref a), some (.ref lh), some (.int many), some (.int far), some (.ref lq), some (.ref lp), some (.ref lw), some (.int hd), some (.int ah), u1, u2, u3] ∧
      Same H2 H3 ∧ H3 lp = some (.lst (iL ps)) ∧ H3 lw = some (.lst (iL ws)) ∧ ps.length = i ∧ ws.length = i ∧ i ≤ 12 ∧ (∀ p ∈ ps, 0 ≤ p ∧ p ≤ far) ∧ keeps ps hd ws ∧ lastOf hd ws = ah) ?_ ?_ ?_⟩
    · exact ⟨hd, _, _, _, [], [], rfl, s3, by rw [upd_ne hne, upd_same]; rfl, upd_same, rfl, rfl, by decide, by simp, trivial, rfl⟩
    · rintro i σ H3 hi ⟨ah, u1, u2, u3, ps, ws, rfl, sm, hP, hW, lps, lws, hi12, hpos, hk, hlast⟩
      have q3 := sm.seq q2
      walk_at "st"
      refine i_ixL q3 (by omega) (by omega) (fun w0 _ n0 => ?_)
      have c0 := b2 _ n0
      walk_at "st"
      refine i_mulI (cmul_l (by omega) (by omega)) ?_
      walk_at "st"
      have d1 := Int.emod_nonneg (w0 * (1000000000000 + 1)) (show far + 1 ≠ 0 by omega)
      have d2 := Int.emod_lt_of_pos (w0 * (1000000000000 + 1)) (show 0 < far + 1 by omega)
      generalize (w0 * (1000000000000 + 1)) % (far + 1) = play0 at *
      refine ⟨fun σ H4 => ∃ play : Int, σ = [some (.ref a), some (.ref lh), some (.int many), some (.int far), some (.ref lq), some (.ref lp), some (.ref lw), some (.int hd), some (.int ah), some (.int (0 + (i : Int))), some (.int play), u3] ∧ (0 ≤ play ∧ play ≤ far) ∧ H4 = H3, ?_, ?_⟩
      · walk_at "st"
        refine i_ixL q3 (by omega) (by omega) (fun w1 _ n1 => ?_)
        walk_at "st"
        refine i_if (fun _ => ?_) (fun _ => ?_)
        · walk_at "st"
          refine i_ixL q3 (by omega) (by omega) (fun w2 _ n2 => ?_)
          walk_at "st"
          exact ⟨⟨Int.emod_nonneg _ (by omega), Int.le_of_lt_add_one (Int.emod_lt_of_pos _ (by omega))⟩, rfl⟩
        · exact ⟨_, rfl, ⟨d1, by omega⟩, rfl⟩
      · rintro σ H4 ⟨play, rfl, hp0, rfl⟩
        walk_at "st"
        refine i_ixL q3 (by omega) (by omega) (fun w3 _ n3 => ?_)
        have c3 := b2 _ n3
        walk_at "st"
        refine i_mulI (cmul_l (by omega) (by omega)) ?_
        walk_at "st"
        refine i_mulI (cmul_l (by decide) (by decide)) ?_
        walk_at "st"
        have g1 := Int.emod_nonneg (w3 * (1000000000000 + 1)) (show 2 * play + 1 ≠ 0 by omega)
        have g2 := Int.emod_lt_of_pos (w3 * (1000000000000 + 1)) (show 0 < 2 * play + 1 by omega)
        generalize (w3 * (1000000000000 + 1)) % (2 * play + 1) = sd at *
        refine i_ixL q3 (by omega) (by omega) (fun w4 _ n4 => ?_)
        walk_at "st"
        refine i_menu3 (Int.emod_nonneg _ (by decide)) (Int.emod_lt_of_pos _ (by decide)) (fun side hside => ?_)
        have hs1 : side ≤ play ∧ -play ≤ side := by omega
        clear hside
        walk_at "st"
        refine ⟨.inl ⟨rfl, _, SqL.of hP⟩, ?_⟩
        walk_at "st"
        refine i_app hP (szlt (by simp [iL]; omega)) ?_
        walk_at "st"
        have hW' : upd H4 lp (.lst (iL ps ++ [V.int play])) lw = some (.lst (iL ws)) := by rw [upd_ne hne.symm]; exact hW
        refine ⟨.inl ⟨rfl, _, SqL.of hW'⟩, ?_⟩
        walk_at "st"
        refine i_app hW' (szlt (by simp [iL]; omega)) ?_
        refine ⟨ah + side, _, _, _, ps ++ [play], ws ++ [ah + side], rfl, fun b o e => ?_, ?_, ?_, by simp; omega, by simp; omega, by omega, ?_, keeps_snoc ps ws hd (by omega) hk (by omega) (by omega), lastOf_snoc _ _ _⟩
        · have e1 : b ≠ lp := ne_of_none e hp
          have e2 : b ≠ lw := ne_of_none e ((same_upd hp).free hw)
          rw [upd_ne e2, upd_ne e1]; exact sm b o e
        · rw [upd_ne hne, upd_same]; simp [iL]
        · rw [upd_same]; simp [iL]
        · intro p hpm
          rcases List.mem_append.mp hpm with z | z
          · exact hpos p z
          · simp at z; subst z; exact hp0
    · rintro σ H3 ⟨ah, u1, u2, u3, ps, ws, rfl, sm, hP, hW, lps, lws, hi12, hpos, hk, hlast⟩
      walk_at "st"
      intro t ht
      have sA : Same H H3 := (N1.sm.trans N2.sm).trans sm
      exact k t lp lw ps ws hd _ (sA.free ht) ⟨hpf, sA.trans (same_upd ht), same_upd ht _ _ hP⟩ ⟨hwf, sA.trans (same_upd ht), same_upd ht _ _ hW⟩ hne upd_same ⟨by omega, by omega, fun p hp => (hpos p hp).1⟩ ⟨by omega, hk⟩ (fun p hp => by have := (hpos p hp).2; omega) (by omega) (by omega)

--SPLIT
theorem pd_bls {H : Hp} {l : Addr} {bs : List Bool} {n : Nat} (h : H l = some (.lst (bL bs))) : PdAt K H (n + 1) (.list (bs.map PyData.bool)) (.ref l) := by
  refine pd_lst (SqL.of h) ?_
  induction bs with
  | nil => exact .nil
  | cons b bs ih => exact .cons pd_bl (pdb bs)
theorem tot_set {z : Str} : ∀ (qs : List Str) (j : Nat), tot (qs.set j z) ≤ tot qs + z.length
  | [], _ => by simp [tot]
  | q :: qs, 0 => by
    simp only [tot, List.set_cons_zero, List.map_cons, List.sum_cons, List.length_cons]
    omega
  | q :: qs, j + 1 => by
    have := tot_set (z := z) qs j
    simp only [tot, List.set_cons_succ, List.map_cons, List.sum_cons, List.length_cons] at this ⊢
    omega
theorem set_str (qs : List Str) (j : Nat) (z : Str) : (qs.map V.str).set j (V.str z) = (qs.set j z).map V.str := by rw [List.map_set]
theorem ok_law {f : Addr} {fd : FuncData} (F : Fun K "law" "law" s_law f fd) (T : Txt mg) (Z : Cls K mg) (C_law_train : Callee P w K mg base "_law_train" 2 (spTrainB K)) (C_law_draws : Callee P w K mg base "_law_draws" 1 spDraws) (C_law_cell_at : Callee P w K mg base "_law_cell_at" 1 (spCellAt K)) (C_law_a_words : Callee P w K mg base "_law_a_words" 1 (spWritten K)) (C_law_spoilt : Callee P w K mg base "_law_spoilt" 1 spSpoil31) (C_law_a_meant : Callee P w K mg base "_law_a_meant" 3 spMeant) (C_law_a_fault : Callee P w K mg base "_law_a_fault" 2 spFault) (C_law_a_told : Callee P w K mg base "_law_a_told" 6 spTold31) (C_law_due_kin : Callee P w K mg base "_law_due_kin" 1 spDueKinG) (C_law_is_read : Callee P w K mg base "_law_is_read" 3 spIsRead) (C_law_shown : Callee P w K mg base "_law_shown" 6 spLawShown) :
    FnOk P w K mg base CX0 7 f fd ["script"] (spLaw K) := by
  refine F.ok sc_law (fun vs H Q E h => ?_) (fun cdv A outer s H vs Q E hr h => ?_)
  · obtain ⟨a, ns, rfl, _⟩ := h
    rfl
  · obtain ⟨a, ns, rfl, hS, hlen, k⟩ := h
    have hu := hr.units
    refine ⟨_, (pss_cons (ps_asg (pe_callN C_law_train (hr.mono (by decide)) (by rfl) (pa_cons (pv 0) pa_nil)) (pg_tupK K 3 (pgs_cons (pg_name (i := 1) sc_law.nd rfl (Or.inl rfl)) (pgs_cons (pg_name (i := 2) sc_law.nd rfl (Or.inl rfl)) (pgs_cons (pg_name (i := 3) sc_law.nd rfl (Or.inl rfl)) pgs_nil)))))
 (pss_cons (ps_set (i := 4) sc_law.nd rfl (Or.inr rfl) (pe_menu (pa_cons pe_int (pa_cons pe_int (pa_cons pe_int (pa_cons (pe_powK (r := 10000000000000000) (by decide)) pa_nil)))) (pe_op op_mod (pe_ix (ix_Q (K := K)) (pe_callN C_law_draws (hr.mono (by decide)) (by rfl) (pa_cons (pe_callN C_law_cell_at (hr.mono (by decide)) (by rfl) (pa_cons (pv 0) (pa_cons pe_int pa_nil))) (pa_cons pe_int (pa_cons pe_int pa_nil)))) pe_int (by exact fun _ _ => rfl)) pe_int) (by exact fun _ _ => rfl)))
 (pss_cons (by exact ps_setC (i := 1) sc_law.nd rfl (Or.inl rfl) (N := ["play", "great"]) (fr := [none, some 4]) ⟨by rfl, by decide +kernel, by decide +kernel, (show ∀ y ∈ (_ : List (Str × NameKind)), y.2 = NameKind.free → (defScope s_law).names.lookup y.1 = some .cell ∨ (defScope s_law).names.lookup y.1 = some .free by decide +kernel), (fr_none (fr_some (by rfl) (by first | exact Or.inl rfl | exact Or.inr rfl) (by rfl) fr_nil))⟩ (by rfl) (pi_listK K (pv 1)) (fun _ _ _ _ => (pg_name (i := 0) (show List.Nodup (["play", "great"] : List Str) by decide) (by rfl) (by first | exact Or.inl rfl | exact Or.inr rfl))) (fun _ _ _ _ => pifs_nil) (fun _ _ _ _ => (pe_op op_mulQ (pv 0) (pv 1))) (gw_name (by rfl)))
 (pss_cons (by exact ps_setC (i := 3) sc_law.nd rfl (Or.inl rfl) (N := ["at", "great"]) (fr := [none, some 4]) ⟨by rfl, by decide +kernel, by decide +kernel, (show ∀ y ∈ (_ : List (Str × NameKind)), y.2 = NameKind.free → (defScope s_law).names.lookup y.1 = some .cell ∨ (defScope s_law).names.lookup y.1 = some .free by decide +kernel), (fr_none (fr_some (by rfl) (by first | exact Or.inl rfl | exact Or.inr rfl) (by rfl) fr_nil))⟩ (by rfl) (pi_listK K (pv 3)) (fun _ _ _ _ => (pg_name (i := 0) (show List.Nodup (["at", "great"] : List Str) by decide) (by rfl) (by first | exact Or.inl rfl | exact Or.inr rfl))) (fun _ _ _ _ => pifs_nil) (fun _ _ _ _ => (pe_op op_mulQ (pv 0) (pv 1))) (gw_name (by rfl)))
 (pss_cons (ps_set (i := 2) sc_law.nd rfl (Or.inl rfl) (pe_op op_mulQ (pv 2) (pv 4)))
 (pss_join (ps_set (i := 5) sc_law.nd rfl (Or.inl rfl) (pe_op op_addQ (pe_op op_addQ (pe_op op_addQ pe_str (pe_callN C_law_a_words (hr.mono (by decide)) (by rfl) (pa_cons (pv 1) pa_nil))) pe_str) (pe_callN C_law_a_words (hr.mono (by decide)) (by rfl) (pa_cons (pe_op op_addQ (pe_lst (pa_cons (pv 2) pa_nil)) (pv 3)) pa_nil))))
 (pss_cons (ps_for PassesOwn.never rfl (pi_listK K (pe_op op_addQ (pe_lst (pa_cons pe_int pa_nil)) (pe_slice (sl_Q (K := K)) (pv 0) (po_some pe_int) (po_some pe_int)))) (pg_name (i := 6) sc_law.nd rfl (Or.inl rfl))
 (pss_cons (ps_set (i := 7) sc_law.nd rfl (Or.inl rfl) (pe_callN C_law_draws (hr.mono (by decide)) (by rfl) (pa_cons (pv 6) (pa_cons pe_int (pa_cons pe_int pa_nil)))))
 (pss_cons (ps_set (i := 8) sc_law.nd rfl (Or.inl rfl) (pv 5))
 (pss_join (ps_if (PW.pt (pw_and (pt_cmpR (op_eqK K hu) (pe_op op_mod (pe_op op_fdiv (pe_ix (ix_Q (K := K)) (pv 7) pe_int (by exact fun _ _ => rfl)) pe_int) pe_int) pe_int (nomark _)) (pw_and1 (pt_cmpR (op_neK K hu) (pv 6) pe_int (nomark _)))))
 (pss_cons (ps_set (i := 9) sc_law.nd rfl (Or.inl rfl) (pe_bmK K PySem.F.plainAttrs_str PySem.F.slot_str_split PySem.F.type_str_split mt_split (pv 8) (pa_cons pe_str pa_nil)))
 (pss_cons (ps_set (i := 10) sc_law.nd rfl (Or.inl rfl) (pe_op op_mulQ (pe_callTy call_str_int (by rfl) T.z_str bt_str (pa_cons (pe_op op_addQ pe_int (pe_op op_mod (pe_ix (ix_Q (K := K)) (pv 7) pe_int (by exact fun _ _ => rfl)) pe_int)) pa_nil)) (pe_op op_addQ pe_int (pe_op op_mod (pe_ix (ix_Q (K := K)) (pv 7) pe_int (by exact fun _ _ => rfl)) pe_int))))
 (pss_cons (ps_asg (pe_op op_addQ (pe_menu (pa_cons pe_str (pa_cons pe_str pa_nil)) (pe_op op_mod (pe_ix (ix_Q (K := K)) (pv 7) pe_int (by exact fun _ _ => rfl)) pe_int) (by exact fun _ _ => rfl)) (pv 10)) (pg_sub (pv 9) (pe_op op_addQ pe_int (pe_op op_mod (pe_ix (ix_Q (K := K)) (pv 7) pe_int (by exact fun _ _ => rfl)) (pe_op op_sub (pe_callB (call_lenK K) (by rfl) T.z_len bt_len (pa_cons (pv 9) pa_nil)) pe_int))) set_list))
 (pss_cons (ps_set (i := 8) sc_law.nd rfl (Or.inl rfl) (pe_bmK K PySem.F.plainAttrs_str PySem.F.slot_str_join PySem.F.type_str_join (mt_joinK K) pe_str (pa_cons (pv 9) pa_nil)))
 (pss_one (ps_if (pt_cmpR (op_notInQ (K := K)) pe_str (pv 8) (by rfl))
 (pss_one (ps_set (i := 8) sc_law.nd rfl (Or.inl rfl) (pv 5)))
 pss_nil))))))
 pss_nil)
 (pss_cons (ps_for PassesOwn.never rfl (pi_range1 (by rfl) T.z_range (pa_cons (pe_op op_mulQ (pe_menu (pa_cons pe_int (pa_cons pe_int (pa_cons pe_int (pa_cons pe_int pa_nil)))) (pe_op op_mod (pe_ix (ix_Q (K := K)) (pv 7) pe_int (by exact fun _ _ => rfl)) pe_int) (by exact fun _ _ => rfl)) (pe_callTy call_intQ (by rfl) T.z_int bt_int (pa_cons (pe_cmpR (op_neK K hu) (pv 6) pe_int (nomark _)) pa_nil))) pa_nil)) (pg_name (i := 11) sc_law.nd rfl (Or.inl rfl))
 (pss_one (ps_set (i := 8) sc_law.nd rfl (Or.inl rfl) (pe_callN C_law_spoilt (hr.mono (by decide)) (by rfl) (pa_cons (pv 8) (pa_cons (pe_slice (sl_Q (K := K)) (pv 7) (po_some (pe_op op_mulQ pe_int (pv 11))) (po_some (pe_op op_addQ (pe_op op_mulQ pe_int (pv 11)) pe_int))) pa_nil))))))
 (pss_cons (ps_set (i := 12) sc_law.nd rfl (Or.inl rfl) (pe_callN C_law_a_meant (hr.mono (by decide)) (by rfl) (pa_cons (pv 8) pa_nil)))
 (pss_cons (ps_set (i := 13) sc_law.nd rfl (Or.inl rfl) pe_str)
 (pss_join (ps_if (pt_cmpR op_notN (pv 12) pe_non (nomark _))
 (pss_one (ps_set (i := 13) sc_law.nd rfl (Or.inl rfl) (pe_callN C_law_a_fault (hr.mono (by decide)) (by rfl) (pa_cons (pe_ix (ix_Q (K := K)) (pv 12) pe_int (by exact fun _ _ => rfl)) (pa_cons (pe_ix (ix_Q (K := K)) (pv 12) pe_int (by exact fun _ _ => rfl)) (pa_cons (pe_ix (ix_Q (K := K)) (pv 12) pe_int (by exact fun _ _ => rfl)) pa_nil))))))
 pss_nil)
 (pss_cons (ps_asg (pe_callN C_law_a_told (hr.mono (by decide)) (by rfl) (pa_cons (pv 8) pa_nil)) (pg_tupK K 2 (pgs_cons (pg_name (i := 14) sc_law.nd rfl (Or.inl rfl)) (pgs_cons (pg_name (i := 15) sc_law.nd rfl (Or.inl rfl)) pgs_nil))))
 (pss_join (ps_if (pt_cmpR (op_neK K hu) (pv 13) pe_str (nomark _))
 (pss_one (ps_if (pt_cmpR (op_neK K hu) (pv 15) (pe_callN C_law_due_kin (hr.mono (by decide)) (by rfl) (pa_cons (pv 13) pa_nil)) (nomark _))
 (pss_one (ps_ret pe_bl))
 pss_nil))
 (pss_one (ps_if (PW.pt (pw_or (pt_cmpR (op_neK K hu) (pv 15) (pe_lst pa_nil) (nomark _)) (pw_or1 (pt_not (pt_truthK K (pe_callN C_law_is_read (hr.mono (by decide)) (by rfl) (pa_cons (pv 14) (pa_cons (pv 12) pa_nil))))))))
 (pss_one (ps_ret pe_bl))
 pss_nil)))
 (pss_one (ps_if (pt_cmpR op_notN (pv 12) pe_non (nomark _))
 (pss_cons (ps_set (i := 16) sc_law.nd rfl (Or.inl rfl) (pe_tup (pa_cons (pe_callTy (call_listK K) (by rfl) T.z_list bt_list (pa_cons (pe_ix (ix_Q (K := K)) (pv 12) pe_int (by exact fun _ _ => rfl)) pa_nil)) (pa_cons (pe_ix (ix_Q (K := K)) (pv 12) pe_int (by exact fun _ _ => rfl)) (pa_cons (pe_callTy (call_listK K) (by rfl) T.z_list bt_list (pa_cons (pe_ix (ix_Q (K := K)) (pv 12) pe_int (by exact fun _ _ => rfl)) pa_nil)) pa_nil)))))
 (pss_cons (ps_asg (pe_callN C_law_shown (hr.mono (by decide)) (by rfl) (pa_cons (pe_ix (ix_Q (K := K)) (pv 16) pe_int (by exact fun _ _ => rfl)) (pa_cons (pe_ix (ix_Q (K := K)) (pv 16) pe_int (by exact fun _ _ => rfl)) (pa_cons (pe_ix (ix_Q (K := K)) (pv 16) pe_int (by exact fun _ _ => rfl)) pa_nil)))) (pg_tupK K 2 (pgs_cons (pg_name (i := 17) sc_law.nd rfl (Or.inl rfl)) (pgs_cons (pg_name (i := 15) sc_law.nd rfl (Or.inl rfl)) pgs_nil))))
 (pss_cons (ps_if (PW.pt (pw_or (pt_cmpR (op_neK K hu) (pv 16) (pv 12) (nomark _)) (pw_or1 (pt_cmpR (op_neK K hu) (pv 15) (pe_menu (pa_cons (pe_lst pa_nil) (pa_cons (pe_callN C_law_due_kin (hr.mono (by decide)) (by rfl) (pa_cons (pv 13) pa_nil)) pa_nil)) (pe_callTy call_intQ (by rfl) T.z_int bt_int (pa_cons (pe_cmpR (op_neK K hu) (pv 13) pe_str (nomark _)) pa_nil)) (by exact fun _ _ => rfl)) (nomark _)))))
 (pss_one (ps_ret pe_bl))
 pss_nil)
 (pss_one (ps_if (PW.pt (pw_and (pt_cmpR (op_eqK K hu) (pv 13) pe_str (nomark _)) (pw_and1 (pt_cmpR (op_neK K hu) (pv 17) (pv 8) (nomark _)))))
 (pss_one (ps_ret pe_bl))
 pss_nil)))))
 pss_nil))))))))))))
 (pss_one (ps_ret pe_bl))))))))), ?_⟩
    dsimp only [tSeq, tAsg, gName, tOp, tUn, tTest, tB, tAnd, tOr, tNot, tAndV, tOrV, tNotV, tIf, tIfS, tRet, tRetN, tDrop, tNext, tCons, tNil, tCB, tCall, tMenu, tComp, tComp2, msk, List.zipWith, iZip2, iStr, iEnum, tNoIf, tTru, tJoin, cxOf_K, tLst, tTup, tSl, tPart, tNoPart, tBM, tBM0, tChain, tC, tFor_eq, gTup, gStar, gLst, gCons, gNil, gSub, iList, iRng1, iRng2, iRng3, iTup, tWhile, tRev, tRaise, tCallS, tTry, tAug, tPar, tNever, ipI, List.append_nil]
    try clear hu
    walk_at "st"
    refine ⟨a, ns, rfl, hS, fun t0 lp lw ps ws hd H1 ft0 N1 N2 npw e0 hT hSt hB1 hB2 hB3 => ?_⟩
    have sH1 := N1.sm
    have p1 := N1.at_
    have w1 := N2.at_
    clear N1 N2 ft0 npw
    walk_at "st"
    refine ⟨_, _, rfl, SqT.of e0, rfl, _, _, rfl, _, _, rfl, _, _, rfl, rfl, ?_⟩
    have hp2 := hT.2.1
    have hwl := hSt.1
    have hwB := keeps_near hSt.2 hwl hB1 (by decide)
    have hp0 := hT.2.2
    walk_at "st"
    refine ⟨a, ns, 2, rfl, sH1.seq hS, by decide, fun c2 => ?_⟩
    walk_at "st"
    refine ⟨c2, 1, 1000, rfl, by decide, by decide, by decide, by decide, fun lq H2 pk N2 l2 b2 => ?_⟩
    have sH2 := sH1.trans N2.sm
    replace p1 := N2.sm _ _ p1
    replace w1 := N2.sm _ _ w1
    walk_at "st"
    refine .inl (i_ixL (SqL.of N2.at_) (by omega) (by omega) (fun v0 _ _ => ?_))
    clear N2
    walk_at "st"
    refine i_menu4 (Int.emod_nonneg _ (by decide)) (Int.emod_lt_of_pos _ (by decide)) (fun gr hgr => ?_)
    have hg : 1 ≤ gr ∧ gr ≤ 10000000000000000 := by omega
    clear hgr e0
    walk_at "st"
    refine ⟨⟨_, SqL.of p1⟩, cp_list (xs := iL ps) (fun i ys H3 => ys = iL ((ps.take i).map (· * gr)) ∧ H2 = H3) ⟨rfl, rfl⟩ ?_ (szlt (by simp [iL]; omega)) ?_ ?_⟩
    · rintro i ys H3 ⟨rfl, rfl⟩
      exact ⟨SqL.of p1, by simp [iL]; omega⟩
    · rintro i x ys H3 hx ⟨rfl, rfl⟩
      unfold iL at hx
      rw [List.getElem?_map] at hx
      obtain ⟨q, hq, rfl⟩ := Option.map_eq_some_iff.mp hx
      walk_at "st"
      refine i_mulQI (cmul_r (by omega) (by omega)) ?_
      refine ⟨?_, rfl⟩
      rw [take_snoc_get hq]
      simp [iL]
    rintro lp2 ys H3 ⟨rfl, rfl⟩ hlp2
    rw [show (iL ps).length = ps.length by simp [iL], List.take_of_length_le (Nat.le_refl _)]
    have e3 : upd H2 lp2 (.lst (iL (ps.map (· * gr)))) lp2 = some (.lst (iL (ps.map (· * gr)))) := upd_same
    have s3 : Same H2 _ := same_upd (o := .lst (iL (ps.map (· * gr)))) hlp2
    generalize upd H2 lp2 (.lst (iL (ps.map (· * gr)))) = H3 at *
    replace w1 := s3 _ _ w1
    walk_at "st"
    refine ⟨⟨_, SqL.of w1⟩, cp_list (xs := iL ws) (fun i ys H4 => ys = iL ((ws.take i).map (· * gr)) ∧ H3 = H4) ⟨rfl, rfl⟩ ?_ (szlt (by simp [iL]; omega)) ?_ ?_⟩
    · rintro i ys H4 ⟨rfl, rfl⟩
      exact ⟨SqL.of w1, by simp [iL]; omega⟩
    · rintro i x ys H4 hx ⟨rfl, rfl⟩
      unfold iL at hx
      rw [List.getElem?_map] at hx
      obtain ⟨q, hq, rfl⟩ := Option.map_eq_some_iff.mp hx
      walk_at "st"
      refine i_mulQI (cmul_r (by omega) (by omega)) ?_
      refine ⟨?_, rfl⟩
      rw [take_snoc_get hq]
      simp [iL]
    rintro lw2 ys H4 ⟨rfl, rfl⟩ hlw2
    rw [show (iL ws).length = ws.length by simp [iL], List.take_of_length_le (Nat.le_refl _)]
    have e4 : upd H3 lw2 (.lst (iL (ws.map (· * gr)))) lw2 = some (.lst (iL (ws.map (· * gr)))) := upd_same
    have s4 : Same H3 _ := same_upd (o := .lst (iL (ws.map (· * gr)))) hlw2
    generalize upd H3 lw2 (.lst (iL (ws.map (· * gr)))) = H4 at *
    replace e3 := s4 _ _ e3
    have sH4 := sH2.trans (s3.trans s4)
    clear s3 s4 hlp2 hlw2 p1 w1 sH2 sH1
    walk_at "st"
    refine i_mulQI (cmul_r (by omega) (by omega)) ?_
    have z1 : ∀ n ∈ ps.map (· * gr), Small n := fun n hn => by
      obtain ⟨q, hq, rfl⟩ := List.mem_map.mp hn
      have := hB1 q hq
      have := hp0 q hq
      exact small_of (by omega) (by omega) hg.1 hg.2
    have z2 : ∀ n ∈ (hd * gr) :: ws.map (· * gr), Small n := fun n hn => by
      rcases List.mem_cons.mp hn with rfl | hn
      · exact small_of (by omega) (by omega) hg.1 hg.2
      · obtain ⟨q, hq, rfl⟩ := List.mem_map.mp hn
        have := hwB q hq
        have hc : (ps.length : Int) * 100000000000000000000 ≤ 12 * 100000000000000000000 := by omega
        exact small_of (by omega) (by omega) hg.1 hg.2
    have l1 : (ps.map (· * gr)).length ≤ 12 := by simpa using hp2
    have l2 : ((hd * gr) :: ws.map (· * gr)).length ≤ 13 := by simp; omega
    generalize ps.map (· * gr) = ps2 at *
    generalize ws.map (· * gr) = ws2 at *
    generalize hd * gr = hd2 at *
    clear hB1 hB2 hB3 hwB hp0 hT hSt hg hp2 hwl
    walk_at "st"
    refine ⟨fun σ H5 => ∃ (u1 u2 u3 u4 : Option V) (first : Str), σ = [some (.ref a), u1, u2, u3, u4, some (.str first), none, none, none, none, none, none, none, none, none, none, none, none] ∧ Asc first ∧ first.length ≤ 2100 ∧ 32 ∈ sg first ∧ Same H H5, ?_, ?_⟩
    · walk_at "st"
      refine ⟨lp2, ps2, rfl, SqL.of e3, z1, by omega, fun H5 s5 => ?_⟩
      have j1 := words_join_len z1 (by omega)
      have j2 := words_join_len z2 l2
      have a1 := words_join_asc ps2
      have a2 := words_join_asc (hd2 :: ws2)
      have k1 := app_len (Str.ofString "plays ") (Str.join ⟨#[32]⟩ (ps2.map tx))
      have k2 := app_len (Str.ofString "plays " ++ Str.join ⟨#[32]⟩ (ps2.map tx)) (Str.ofString "\nat ")
      have k3 := app_len (Str.ofString "plays " ++ Str.join ⟨#[32]⟩ (ps2.map tx) ++ Str.ofString "\nat ") (Str.join ⟨#[32]⟩ ((hd2 :: ws2).map tx))
      rw [show (Str.ofString "plays ").length = 6 from rfl] at k1
      rw [show (Str.ofString "\nat ").length = 4 from rfl] at k2
      walk_at "st"
      refine i_addQS (by rw [show (Str.ofString "plays ").length = 6 from rfl]; omega) ?_
      walk_at "st"
      refine i_addQS (by rw [show (Str.ofString "\nat ").length = 4 from rfl]; omega) ?_
      walk_at "st"
      intro q3 h3
      walk_at "st"
      have s6 : Same H5 _ := same_upd (o := .lst [.int hd2]) h3
      refine .inl (i_addL (xs := [.int hd2]) (ys := iL ws2) upd_same (s6 _ _ (s5 _ _ e4)) (szl (by simp [iL] at l2 ⊢; omega)) (fun q4 h4 => ?_))
      have s7 : Same H5 _ := s6.trans (same_upd (o := .lst ([.int hd2] ++ iL ws2)) h4)
      have e7 : upd (upd H5 q3 (.lst [.int hd2])) q4 (.lst ([.int hd2] ++ iL ws2)) q4 = some (.lst (iL (hd2 :: ws2))) := by rw [upd_same]; rfl
      generalize upd (upd H5 q3 (.lst [.int hd2])) q4 (.lst ([.int hd2] ++ iL ws2)) = H7 at *
      walk_at "st"
      refine ⟨q4, hd2 :: ws2, rfl, SqL.of e7, z2, by omega, fun H8 s8 => ?_⟩
      walk_at "st"
      refine i_addQS (by omega) ?_
      refine ⟨_, _, _, _, _, rfl, ?_, by omega, ?_, sH4.trans (s5.trans (s7.trans s8))⟩
      · exact (((by decide +kernel : Asc (Str.ofString "plays ")).app a1).app (by decide +kernel)).app a2
      · rw [sg_app, sg_app, sg_app]
        refine List.mem_append_left _ (List.mem_append_left _ (List.mem_append_left _ ?_))
        decide +kernel
    rintro σ H5 ⟨u1, u2, u3, u4, first, rfl, hfa, hfl, hfb, sH5⟩
    clear z1 z2 l1 l2 e3 e4 sH4
    walk_at "st"
    intro g2 hg2
    walk_at "st"
    refine .inl (i_slMid ((same_upd hg2).seq (sH5.seq hS)) (by decide) (by decide) (fun g3 hg3 => ?_))
    generalize hcs : (ns.drop (3 : Int).toNat).take ((19 : Int).toNat - (3 : Int).toNat) = cs at *
    have hcl : cs.length ≤ 16 := by rw [← hcs, List.length_take]; exact Nat.min_le_left _ _
    refine .inl (i_addL (a := g2) (b := g3) (xs := [.int 0]) (ys := iL cs) (same_upd hg3 _ _ upd_same) upd_same (szl (by simp [iL]; omega)) (fun lc hlc => ?_))
    have e6 : upd (upd (upd H5 g2 (.lst [.int 0])) g3 (.lst (iL cs))) lc (.lst ([.int 0] ++ iL cs)) lc = some (.lst (iL (0 :: cs))) := by rw [upd_same]; rfl
    generalize upd (upd (upd H5 g2 (.lst [.int 0])) g3 (.lst (iL cs))) lc (.lst ([.int 0] ++ iL cs)) = H6 at *
    clear hg2 hg3 hlc hS sH5 hcs
    walk_at "st"
    refine ⟨⟨_, SqL.of e6⟩, lp_ints (ns := 0 :: cs) (fun i σ H7 => ∃ (u6 u7 u8 u9 u10 u11 u12 u13 u14 u15 u16 u17 : Option V), σ = [some (.ref a), u1, u2, u3, u4, some (.str first), u6, u7, u8, u9, u10, u11, u12, u13, u14, u15, u16, u17] ∧ Same H6 H7) ?_ ?_ ?_ ?_⟩
    · exact ⟨_, _, _, _, _, _, _, _, _, _, _, _, rfl, Same.refl _⟩
    · rintro i σ H7 _ ⟨u6, u7, u8, u9, u10, u11, u12, u13, u14, u15, u16, u17, rfl, sm⟩
      exact SqL.of (sm _ _ e6)
    · rintro i cell σ H7 hx ⟨u6, u7, u8, u9, u10, u11, u12, u13, u14, u15, u16, u17, rfl, sm⟩
      walk_at "st"
      refine ⟨cell, 9, 1000, rfl, by decide, by decide, by decide, by decide, fun lq H8 pk N8 l8 b8 => ?_⟩
      have sm8 := sm.trans N8.sm
      have q8 := N8.at_
      clear N8 sm
      have it : ∀ {Q' : VK} {H' : Hp} {j : Int}, Same H8 H' → 0 ≤ j → j < 9 → (∀ v, 0 ≤ v → Q' (.int v) H') → rIxQ K (.ref lq) (.int j) H' Q' := fun e h0 h1 q => .inl (i_ixL (SqL.of (e _ _ q8)) h0 (by omega) fun v _ m => q v (b8 v m).1)
      walk_at "st"
      refine ⟨fun σ H9 => ∃ (u9 u10 : Option V) (text : Str), σ = [some (.ref a), u1, u2, u3, u4, some (.str first), some (.int cell), some (.ref lq), some (.str text), u9, u10, u11, u12, u13, u14, u15, u16, u17] ∧ Asc text ∧ text.length ≤ 3000 ∧ Same H8 H9, ?_, ?_⟩
      · walk_at "st"
        refine it (Same.refl _) (by decide) (by decide) (fun v8 y8 => ?_)
        walk_at "st"
        refine i_if (fun g => ?_) (fun g => ?_)
        rotate_left
        · walk_at "st"
          exact ⟨_, _, first, rfl, hfa, by omega, Same.refl _⟩
        walk_at "st"
        refine i_ifn (fun gc => ?_) (fun gc => ?_)
        rotate_left
        · walk_at "st"
          exact ⟨_, _, first, rfl, hfa, by omega, Same.refl _⟩
        walk_at "st"
        have hP := split_ok first 32
        refine ⟨rfl, first, ⟨#[32]⟩, rfl, rfl, rfl, by omega, ?_, fun l1 h1 => ?_⟩
        · have := hP.sum
          omega
        have hPs : tot (Txt.split first ⟨#[32]⟩) = first.length + 1 := hP.sum
        have hPa := hP.asc hfa
        have hP2 := split_two (by decide) hfb
        generalize Txt.split first ⟨#[32]⟩ = ss at *
        have e1 : upd H8 l1 (.lst (ss.map V.str)) l1 = some (.lst (ss.map V.str)) := upd_same
        have s1 : Same H8 _ := same_upd (o := .lst (ss.map V.str)) h1
        generalize upd H8 l1 (.lst (ss.map V.str)) = H9 at *
        walk_at "st"
        refine it s1 (by decide) (by decide) (fun w2 y2 => ?_)
        walk_at "st"
        have r1 := Int.emod_nonneg w2 (show (9 : Int) ≠ 0 by decide)
        have r2 := Int.emod_lt_of_pos w2 (show (0 : Int) < 9 by decide)
        refine i_addQI ?_
        walk_at "st"
        refine ⟨Nat.lt_of_le_of_lt (Nat.log2_le_self _) (by omega), ?_⟩
        walk_at "st"
        refine it s1 (by decide) (by decide) (fun w3 y3 => ?_)
        walk_at "st"
        have r3 := Int.emod_nonneg w3 (show (4 : Int) ≠ 0 by decide)
        have r4 := Int.emod_lt_of_pos w3 (show (0 : Int) < 4 by decide)
        refine i_addQI ?_
        have hd1 : (tx (1 + w2 % 9)).length = 1 := tx_one (by omega) (by omega)
        have hda := tx_asc (1 + w2 % 9)
        refine .inr ⟨tx (1 + w2 % 9), 39 + w3 % 4, rfl, rfl, by omega, by rw [hd1]; omega, by omega, ?_⟩
        have hfg := mul_len (x := tx (1 + w2 % 9)) (n := 39 + w3 % 4)
        have hfga : Asc (Txt.mul (tx (1 + w2 % 9)) (39 + w3 % 4)) := fun c hc => hda c (mul_mem hc)
        rw [hd1] at hfg
        generalize Txt.mul (tx (1 + w2 % 9)) (39 + w3 % 4) = fg at *
        have hfg2 : fg.length ≤ 50 := by omega
        walk_at "st"
        refine it s1 (by decide) (by decide) (fun w1 y1 => ?_)
        walk_at "st"
        have r5 := Int.emod_nonneg w1 (show (2 : Int) ≠ 0 by decide)
        have r6 := Int.emod_lt_of_pos w1 (show (0 : Int) < 2 by decide)
        generalize w1 % 2 = mi at *
        refine i_menu r5 (by simpa using r6) (fun u hu2 => ?_)
        obtain ⟨hdm, rfl, ham, hlm⟩ : ∃ z : Str, u = .str z ∧ Asc z ∧ z.length ≤ 1 := by
          rcases (show mi = 0 ∨ mi = 1 by omega) with rfl | rfl
          · simp at hu2
            exact ⟨_, hu2.symm, by decide +kernel, by decide +kernel⟩
          · simp at hu2
            exact ⟨_, hu2.symm, by decide +kernel, by decide +kernel⟩
        walk_at "st"
        refine i_addQS (by omega) ?_
        have hz1 := app_len hdm fg
        have hza := ham.app hfga
        generalize hdm ++ fg = zz at *
        walk_at "st"
        refine it s1 (by decide) (by decide) (fun w0 y0 => ?_)
        walk_at "st"
        refine i_len (SqL.of e1) ?_
        rw [List.length_map]
        walk_at "st"
        have r7 := Int.emod_nonneg w0 (show (ss.length : Int) - 1 ≠ 0 by omega)
        have r8 := Int.emod_lt_of_pos w0 (show (0 : Int) < (ss.length : Int) - 1 by omega)
        generalize w0 % ((ss.length : Int) - 1) = ix at *
        refine i_addQI ?_
        walk_at "st"
        refine ⟨l1, _, 1 + ix, (1 + ix).toNat, rfl, rfl, e1, ixN_pos (by omega) (by simp; omega), ?_⟩
        rw [set_str]
        have s2 : Same H8 (upd H9 l1 (.lst ((ss.set (1 + ix).toNat zz).map V.str))) := fun q o e => by
          rw [upd_ne (ne_of_none e h1)]
          exact s1 _ _ e
        have e2 : upd H9 l1 (.lst ((ss.set (1 + ix).toNat zz).map V.str)) l1 = some (.lst ((ss.set (1 + ix).toNat zz).map V.str)) := upd_same
        generalize upd H9 l1 (.lst ((ss.set (1 + ix).toNat zz).map V.str)) = H10 at *
        have ht := tot_set (z := zz) ss (1 + ix).toNat
        have ha : ∀ p ∈ ss.set (1 + ix).toNat zz, Asc p := fun p hp => by
          rcases List.mem_or_eq_of_mem_set hp with z | rfl
          · exact hPa p z
          · exact hza
        generalize ss.set (1 + ix).toNat zz = qs at *
        have hj := tot_join qs
        walk_at "st"
        refine ⟨rfl, ?_⟩
        walk_at "st"
        refine ⟨⟨#[32]⟩, l1, qs, rfl, rfl, SqL.of e2, ?_, ?_⟩
        · show (qs.map (·.length)).sum + qs.length * 1 ≤ _
          unfold tot at ht hPs
          omega
        have hja := join_asc (s := ⟨#[32]⟩) (by decide +kernel) ha
        generalize Str.join ⟨#[32]⟩ qs = tt at *
        walk_at "st"
        refine i_notInC ?_
        walk_at "st"
        refine i_ifn (fun g9 => ?_) (fun g9 => ?_)
        · walk_at "st"
          exact ⟨_, _, first, rfl, hfa, by omega, s2⟩
        · walk_at "st"
          exact ⟨_, _, tt, rfl, hja, by omega, s2⟩
      rintro σ H9 ⟨u9, u10, text, rfl, hta, htl, s9⟩
      walk_at "st"
      refine it s9 (by decide) (by decide) (fun v8 y8 => ?_)
      walk_at "st"
      refine i_menu4 (Int.emod_nonneg _ (by decide)) (Int.emod_lt_of_pos _ (by decide)) (fun mm hmm => ?_)
      have hm2 : 0 ≤ mm ∧ mm ≤ 2 := by omega
      clear hmm
      walk_at "st"
      refine .inl (i_intB ?_)
      walk_at "st"
      refine i_mulQI (cmul_l (by omega) (by omega)) ?_
      have hn2 : 0 ≤ mm * (if (!decide (cell = 0)) = true then 1 else 0) ∧ mm * (if (!decide (cell = 0)) = true then 1 else 0) ≤ 2 := by
        split <;> omega
      generalize mm * (if (!decide (cell = 0)) = true then 1 else 0) = nn at *
      walk_at "st"
      refine ⟨by omega, by omega, lp_range (fun i σ H10 => ∃ (u11 : Option V) (text : Str), σ = [some (.ref a), u1, u2, u3, u4, some (.str first), some (.int cell), some (.ref lq), some (.str text), u9, u10, u11, u12, u13, u14, u15, u16, u17] ∧ Asc text ∧ (i = 0 → text.length ≤ 3000) ∧ (i = 1 → text.length ≤ 6002) ∧ text.length ≤ 12006 ∧ Same H8 H10) ?_ ?_ ?_⟩
      · exact ⟨_, text, rfl, hta, fun _ => htl, fun z => absurd z (by decide), by omega, s9⟩
      · rintro j σ H10 hj ⟨u11, tt, rfl, ha, h0, h1, h2, s10⟩
        have hj2 : j < 2 := by omega
        walk_at "st"
        refine i_mulQI (cmul_l (by decide) (by decide)) ?_
        walk_at "st"
        refine i_mulQI (cmul_l (by decide) (by decide)) ?_
        walk_at "st"
        refine i_addQI ?_
        walk_at "st"
        refine .inl (i_slMid (SqL.of (s10 _ _ q8)) (by omega) (by omega) (fun l11 h11 => ?_))
        have hpl : ((pk.drop (4 * (0 + (j : Int))).toNat).take ((4 * (0 + (j : Int)) + 4).toNat - (4 * (0 + (j : Int))).toNat)).length = 4 := by
          rw [List.length_take, List.length_drop]
          omega
        have hpa : ∀ p ∈ (pk.drop (4 * (0 + (j : Int))).toNat).take ((4 * (0 + (j : Int)) + 4).toNat - (4 * (0 + (j : Int))).toNat), 0 ≤ p := fun p hp => (b8 p (List.mem_of_mem_drop (List.mem_of_mem_take hp))).1
        generalize (pk.drop (4 * (0 + (j : Int))).toNat).take ((4 * (0 + (j : Int)) + 4).toNat - (4 * (0 + (j : Int))).toNat) = sp at *
        walk_at "st"
        refine ⟨tt, l11, sp, rfl, upd_same, hpl, hpa, ha, ?_, fun y H12 s12 hy1 hy2 => ?_⟩
        · rcases (show j = 0 ∨ j = 1 by omega) with rfl | rfl
          · have := h0 rfl
            omega
          · have := h1 rfl
            omega
        refine ⟨_, y, rfl, hy1, fun z => absurd z (by omega), fun z => ?_, ?_, s10.trans ((same_upd h11).trans s12)⟩
        · have := h0 (by omega)
          omega
        · rcases (show j = 0 ∨ j = 1 by omega) with rfl | rfl
          · have := h0 rfl
            omega
          · have := h1 rfl
            omega
      rintro σ H10 ⟨u11, tt, rfl, hta2, _, _, htl2, s10⟩
      have sm10 := sm8.trans s10
      clear it q8 b8 l8 s10 sm8 hta htl s9 hn2 hm2
      walk_at "st"
      refine ⟨tt, rfl, hta2, by omega, fun vm H11 s11 M11 => ?_⟩
      have sm11 := sm10.trans s11
      clear sm10 s11
      walk_at "st"
      refine ⟨fun σ H12 => ∃ d : Str, σ = [some (.ref a), u1, u2, u3, u4, some (.str first), some (.int cell), some (.ref lq), some (.str tt), u9, u10, u11, some vm, some (.str d), u14, u15, u16, u17] ∧ ((meant? tt = none ∧ d = "NoText") ∨ ∃ ps hd ws, meant? tt = some (ps, hd, ws) ∧ Fault ps hd ws d) ∧ Same H11 H12, ?_, ?_⟩
      · walk_at "st"
        refine ⟨rfl, _, rfl, ?_⟩
        rcases id M11 with ⟨hm, rfl⟩ | ⟨ps, hd, ws, tm, lpm, lwm, hm, rfl, e3, e4, e5⟩
        · refine ifF (by simp) ?_
          exact ⟨_, rfl, .inl ⟨hm, rfl⟩, Same.refl _⟩
        · refine ifT (by simp) ?_
          walk_at "st"
          refine .inl (i_ixT (SqT.of e3) (by decide) rfl ?_)
          walk_at "st"
          refine .inl (i_ixT (SqT.of e3) (by decide) rfl ?_)
          walk_at "st"
          refine .inl (i_ixT (SqT.of e3) (by decide) rfl ?_)
          walk_at "st"
          refine ⟨lpm, lwm, ps, ws, hd, rfl, e4, e5, fun d H12 s12 hF => ?_⟩
          exact ⟨d, rfl, .inr ⟨ps, hd, ws, hm, hF⟩, s12⟩
      rintro σ H12 ⟨d, rfl, hF, s12⟩
      have M12 := M11.more s12
      have sm12 := sm11.trans s12
      clear M11 sm11 s12
      walk_at "st"
      refine ⟨tt, rfl, hta2, by omega, fun t13 v13 lk13 bs13 H13 s13 e13 k13 R13 => ?_⟩
      have M13 := M12.more s13
      have sm13 := sm12.trans s13
      clear M12 sm12 s13
      walk_at "st"
      refine ⟨_, _, rfl, SqT.of e13, rfl, _, _, rfl, _, _, rfl, rfl, ?_⟩
      have hdok : PyData.strOk d = true := by
        rcases hF with ⟨_, rfl⟩ | ⟨_, _, _, _, ⟨rfl, _⟩ | ⟨rfl, _⟩ | ⟨rfl, _⟩⟩ <;> decide +kernel
      have hcomb : (d ≠ "" ∧ bs13 = dueX d) ∨ (d = "" ∧ bs13 = [] ∧ ∃ ps hd ws tm lpm lwm t' lp' lw', meant? tt = some (ps, hd, ws) ∧ vm = .ref tm ∧ H13 tm = some (.tup [.ref lpm, .int hd, .ref lwm]) ∧ H13 lpm = some (.lst (iL ps)) ∧ H13 lwm = some (.lst (iL ws)) ∧ v13 = .ref t' ∧ H13 t' = some (.tup [.ref lp', .int hd, .ref lw']) ∧ H13 lp' = some (.lst (iL ps)) ∧ H13 lw' = some (.lst (iL ws)) ∧ isTr ps ∧ stand ps hd ws) := by
        rcases hF with ⟨hm, rfl⟩ | ⟨ps, hd, ws, hm, hF⟩
        · rcases R13 with ⟨_, _, z⟩ | ⟨_, _, _, z, _⟩
          · exact .inl ⟨by decide +kernel, z⟩
          · rw [hm] at z
            cases z
        · rcases R13 with ⟨z, _⟩ | ⟨ps2, hd2, ws2, z, hR⟩
          · rw [hm] at z
            cases z
          · rw [hm] at z
            cases z
            rcases hF with ⟨rfl, h1⟩ | ⟨rfl, h1, h2⟩ | ⟨rfl, h1, h2⟩
            · rcases hR with ⟨_, _, z⟩ | ⟨z, _⟩ | ⟨z, _⟩
              · exact .inl ⟨by decide +kernel, z⟩
              · exact absurd z h1
              · exact absurd z h1
            · rcases hR with ⟨z, _⟩ | ⟨_, _, _, z⟩ | ⟨_, z, _⟩
              · exact absurd h1 z
              · exact .inl ⟨by decide +kernel, z⟩
              · exact absurd z h2
            · rcases hR with ⟨z, _⟩ | ⟨_, z, _⟩ | ⟨_, _, z1, t', lp', lw', z2, z3, z4, z5⟩
              · exact absurd h1 z
              · exact absurd h2 z
              · rcases M13 with ⟨z, _⟩ | ⟨ps3, hd3, ws3, tm, lpm, lwm, z, y1, y2, y3, y4⟩
                · rw [hm] at z
                  cases z
                · rw [hm] at z
                  cases z
                  exact .inr ⟨rfl, z1, ps, hd, ws, tm, lpm, lwm, t', lp', lw', hm, y1, y2, y3, y4, z2, z3, z4, z5, h1, h2⟩
      clear R13 e13
      walk_at "st"
      refine ⟨fun σ H14 => σ = [some (.ref a), u1, u2, u3, u4, some (.str first), some (.int cell), some (.ref lq), some (.str tt), u9, u10, u11, some vm, some (.str d), some v13, some (.ref lk13), u16, u17] ∧ Same H13 H14, ?_, ?_⟩
      · walk_at "st"
        refine i_neS hdok (by decide +kernel) ?_
        walk_at "st"
        rcases hcomb with ⟨hne, rfl⟩ | ⟨rfl, rfl, ps, hd, ws, tm, lpm, lwm, t', lp', lw', hm, rfl, y2, y3, y4, rfl, x2, x3, x4, hT, hSt⟩
        · refine ifT (by simpa using hne) ?_
          walk_at "st"
          refine ⟨d, rfl, hdok, fun l14 H14 s14 h14 => ?_⟩
          walk_at "st"
          refine i_neSame (.list ((dueX d).map PyData.bool)) (pd_bls (s14 _ _ k13)) (pd_bls h14) ?_
          walk_at "st"
          exact ⟨rfl, s14⟩
        · refine ifF (by decide +kernel) ?_
          walk_at "st"
          intro z14 hz14
          have s14 := same_upd (o := .lst []) hz14
          refine i_neSame (.list []) (pd_bls (bs := []) (s14 _ _ k13)) (pd_bls (bs := []) upd_same) ?_
          walk_at "st"
          have h12 := hT.2.1
          have hwl := hSt.1
          refine ⟨t', tm, lp', lw', lpm, lwm, ps, ws, hd, rfl, s14 _ _ x2, s14 _ _ x3, s14 _ _ x4, s14 _ _ y2, s14 _ _ y3, s14 _ _ y4, by omega, by omega, fun H15 s15 => ?_⟩
          walk_at "st"
          exact ⟨rfl, s14.trans s15⟩
      rintro σ H14 ⟨rfl, s14⟩
      have M14 := M13.more s14
      have sm14 := sm13.trans s14
      clear M13 sm13 s14 hcomb k13
      walk_at "st"
      refine ⟨rfl, _, rfl, ?_⟩
      rcases M14 with ⟨hm, rfl⟩ | ⟨ps, hd, ws, tm, lpm, lwm, hm, rfl, e3, e4, e5⟩
      · refine ifF (by simp) ?_
        walk_at "st"
        exact ⟨_, _, _, _, _, _, _, _, _, _, _, _, rfl, sm14⟩
      refine ifT (by simp) ?_
      have hFa : Fault ps hd ws d := by
        rcases hF with ⟨z, _⟩ | ⟨ps2, hd2, ws2, z, hF⟩
        · rw [hm] at z
          cases z
        · rw [hm] at z
          cases z
          exact hF
      clear hF
      obtain ⟨z1, z2, z3⟩ := meant_small hm
      have hback := meant_back hm
      walk_at "st"
      refine .inl (i_ixT (SqT.of e3) (by decide) rfl ?_)
      walk_at "st"
      refine i_listL (SqL.of e4) (fun h1 hh1 => ?_)
      have x1 : Same H14 _ := same_upd (o := .lst (iL ps)) hh1
      have y1 : upd H14 h1 (.lst (iL ps)) h1 = some (.lst (iL ps)) := upd_same
      generalize upd H14 h1 (.lst (iL ps)) = H15 at *
      walk_at "st"
      refine .inl (i_ixT (SqT.of (x1 _ _ e3)) (by decide) rfl ?_)
      walk_at "st"
      refine .inl (i_ixT (SqT.of (x1 _ _ e3)) (by decide) rfl ?_)
      walk_at "st"
      refine i_listL (SqL.of (x1 _ _ e5)) (fun h2 hh2 => ?_)
      have x2 : Same H15 _ := same_upd (o := .lst (iL ws)) hh2
      have y2 : upd H15 h2 (.lst (iL ws)) h2 = some (.lst (iL ws)) := upd_same
      generalize upd H15 h2 (.lst (iL ws)) = H16 at *
      walk_at "st"
      intro h3 hh3
      have x3 : Same H16 _ := same_upd (o := .tup [.ref h1, .int hd, .ref h2]) hh3
      have y3 : upd H16 h3 (.tup [.ref h1, .int hd, .ref h2]) h3 = some (.tup [.ref h1, .int hd, .ref h2]) := upd_same
      generalize upd H16 h3 (.tup [.ref h1, .int hd, .ref h2]) = H17 at *
      have X := x1.trans (x2.trans x3)
      replace y1 := x3 _ _ (x2 _ _ y1)
      replace y2 := x3 _ _ y2
      replace e3 := X _ _ e3
      replace e4 := X _ _ e4
      replace e5 := X _ _ e5
      have sm17 := sm14.trans X
      clear x1 x2 x3 X hh1 hh2 hh3 sm14
      walk_at "st"
      refine .inl (i_ixT (SqT.of y3) (by decide) rfl ?_)
      walk_at "st"
      refine .inl (i_ixT (SqT.of y3) (by decide) rfl ?_)
      walk_at "st"
      refine .inl (i_ixT (SqT.of y3) (by decide) rfl ?_)
      walk_at "st"
      refine ⟨h1, h2, ps, ws, hd, rfl, y1, y2, z1, z2, z3, fun t18 v18 lk18 bs18 H18 s18 e18 k18 S18 => ?_⟩
      replace y1 := s18 _ _ y1
      replace y2 := s18 _ _ y2
      replace y3 := s18 _ _ y3
      replace e3 := s18 _ _ e3
      replace e4 := s18 _ _ e4
      replace e5 := s18 _ _ e5
      have sm18 := sm17.trans s18
      clear sm17 s18
      walk_at "st"
      refine ⟨_, _, rfl, SqT.of e18, rfl, _, _, rfl, _, _, rfl, rfl, ?_⟩
      walk_at "st"
      refine i_neSame (.tuple [pL ps, .int hd, pL ws]) (pd_tup (SqT.of y3) (.cons (pd_ints (SqL.of y1)) (.cons pd_int (.cons (pd_ints (SqL.of y2)) .nil)))) (pd_tup (SqT.of e3) (.cons (pd_ints (SqL.of e4)) (.cons pd_int (.cons (pd_ints (SqL.of e5)) .nil)))) ?_
      clear e3 e4 e5 y1 y2 y3 e18
      have hall : (d ≠ "" ∧ bs18 = dueX d) ∨ (d = "" ∧ bs18 = [] ∧ v18 = .str tt) := by
        rcases hFa with ⟨rfl, h1⟩ | ⟨rfl, h1, h2⟩ | ⟨rfl, h1, h2⟩
        · rcases S18 with ⟨_, _, z⟩ | ⟨z, _⟩ | ⟨z, _⟩
          · exact .inl ⟨by decide +kernel, z⟩
          · exact absurd z h1
          · exact absurd z h1
        · rcases S18 with ⟨z, _⟩ | ⟨_, _, _, z⟩ | ⟨_, z, _⟩
          · exact absurd h1 z
          · exact .inl ⟨by decide +kernel, z⟩
          · exact absurd z h2
        · rcases S18 with ⟨z, _⟩ | ⟨_, z, _⟩ | ⟨_, _, z, y⟩
          · exact absurd h1 z
          · exact absurd h2 z
          · exact .inr ⟨rfl, z, by rw [y, ← hback.1]⟩
      clear S18 hFa hback
      walk_at "st"
      intro z19 hz19
      have s19 := same_upd (o := .lst []) hz19
      have e19 : upd H18 z19 (.lst []) z19 = some (.lst (bL [])) := upd_same
      replace k18 := s19 _ _ k18
      have sm19 := sm18.trans s19
      clear sm18 s19
      generalize upd H18 z19 (.lst []) = H19 at *
      walk_at "st"
      refine ⟨d, rfl, hdok, fun l20 H20 s20 e20 => ?_⟩
      replace k18 := s20 _ _ k18
      replace e19 := s20 _ _ e19
      have sm20 := sm19.trans s20
      clear sm19 s20
      walk_at "st"
      refine i_neS hdok (by decide +kernel) ?_
      walk_at "st"
      refine .inl (i_intB ?_)
      rcases hall with ⟨hne, rfl⟩ | ⟨rfl, rfl, rfl⟩
      · have hb : (d == Str.ofString "") = false := beq_eq_false_iff_ne.mpr hne
        refine ⟨1, .ref l20, by rw [hb]; rfl, rfl, ?_⟩
        refine i_neSame (.list ((dueX d).map PyData.bool)) (pd_bls k18) (pd_bls e20) ?_
        walk_at "st"
        refine i_eqS hdok (by decide +kernel) ?_
        walk_at "st"
        refine ifF hb ?_
        walk_at "st"
        exact ⟨_, _, _, _, _, _, _, _, _, _, _, _, rfl, sm20⟩
      · refine ⟨0, .ref z19, rfl, rfl, ?_⟩
        refine i_neSame (.list (([] : List Bool).map PyData.bool)) (pd_bls k18) (pd_bls e19) ?_
        walk_at "st"
        refine i_eqS hdok (by decide +kernel) ?_
        walk_at "st"
        refine ifT (by decide +kernel) ?_
        walk_at "st"
        refine i_neS hta2.ok hta2.ok ?_
        walk_at "st"
        refine ifF (by simp) ?_
        walk_at "st"
        exact ⟨_, _, _, _, _, _, _, _, _, _, _, _, rfl, sm20⟩
    · rintro σ H7 ⟨u6, u7, u8, u9, u10, u11, u12, u13, u14, u15, u16, u17, rfl, sm⟩
      walk_at "st"
      exact k _

end
theorem all_mk {l : PySem.W.OpenLaw} {w : World} {K : PySem.W.Frag} {h : Heap} {mg : Str → Option Value} {fa : Addr} (X : K.In h) (G : h.Ns mainGlobals mg) (hfa : mg "law" = some (.ref fa))
    {f0 : Addr} {o0 n0 : Option Addr} {s0 : Array (Option Value)} {q0 k0 d0 p0 e0 t0 : Value}
    {f1 : Addr} {o1 n1 : Option Addr} {s1 : Array (Option Value)} {q1 k1 d1 p1 e1 t1 : Value}
    {f2 : Addr} {o2 n2 : Option Addr} {s2 : Array (Option Value)} {q2 k2 d2 p2 e2 t2 : Value}
    {f3 : Addr} {o3 n3 : Option Addr} {s3 : Array (Option Value)} {q3 k3 d3 p3 e3 t3 : Value}
    {f4 : Addr} {o4 n4 : Option Addr} {s4 : Array (Option Value)} {q4 k4 d4 p4 e4 t4 : Value}
    {f5 : Addr} {o5 n5 : Option Addr} {s5 : Array (Option Value)} {q5 k5 d5 p5 e5 t5 : Value}
    {f6 : Addr} {o6 n6 : Option Addr} {s6 : Array (Option Value)} {q6 k6 d6 p6 e6 t6 : Value}
    {f7 : Addr} {o7 n7 : Option Addr} {s7 : Array (Option Value)} {q7 k7 d7 p7 e7 t7 : Value}
    {f8 : Addr} {o8 n8 : Option Addr} {s8 : Array (Option Value)} {q8 k8 d8 p8 e8 t8 : Value}
    {f9 : Addr} {o9 n9 : Option Addr} {s9 : Array (Option Value)} {q9 k9 d9 p9 e9 t9 : Value}
    {f10 : Addr} {o10 n10 : Option Addr} {s10 : Array (Option Value)} {q10 k10 d10 p10 e10 t10 : Value}
    {f11 : Addr} {o11 n11 : Option Addr} {s11 : Array (Option Value)} {q11 k11 d11 p11 e11 t11 : Value}
    {f12 : Addr} {o12 n12 : Option Addr} {s12 : Array (Option Value)} {q12 k12 d12 p12 e12 t12 : Value}
    {f13 : Addr} {o13 n13 : Option Addr} {s13 : Array (Option Value)} {q13 k13 d13 p13 e13 t13 : Value}
    {f14 : Addr} {o14 n14 : Option Addr} {s14 : Array (Option Value)} {q14 k14 d14 p14 e14 t14 : Value}
    {f15 : Addr} {o15 n15 : Option Addr} {s15 : Array (Option Value)} {q15 k15 d15 p15 e15 t15 : Value}
    {f16 : Addr} {o16 n16 : Option Addr} {s16 : Array (Option Value)} {q16 k16 d16 p16 e16 t16 : Value}
    {f17 : Addr} {o17 n17 : Option Addr} {s17 : Array (Option Value)} {q17 k17 d17 p17 e17 t17 : Value}
    {f18 : Addr} {o18 n18 : Option Addr} {s18 : Array (Option Value)} {q18 k18 d18 p18 e18 t18 : Value}
    {f19 : Addr} {o19 n19 : Option Addr} {s19 : Array (Option Value)} {q19 k19 d19 p19 e19 t19 : Value}
    {f20 : Addr} {o20 n20 : Option Addr} {s20 : Array (Option Value)} {q20 k20 d20 p20 e20 t20 : Value}
    {f21 : Addr} {o21 n21 : Option Addr} {s21 : Array (Option Value)} {q21 k21 d21 p21 e21 t21 : Value}
    {f22 : Addr} {o22 n22 : Option Addr} {s22 : Array (Option Value)} {q22 k22 d22 p22 e22 t22 : Value}
    {f23 : Addr} {o23 n23 : Option Addr} {s23 : Array (Option Value)} {q23 k23 d23 p23 e23 t23 : Value}
    {f24 : Addr} {o24 n24 : Option Addr} {s24 : Array (Option Value)} {q24 k24 d24 p24 e24 t24 : Value}
    {f25 : Addr} {o25 n25 : Option Addr} {s25 : Array (Option Value)} {q25 k25 d25 p25 e25 t25 : Value}
    {f26 : Addr} {o26 n26 : Option Addr} {s26 : Array (Option Value)} {q26 k26 d26 p26 e26 t26 : Value}
    {f27 : Addr} {o27 n27 : Option Addr} {s27 : Array (Option Value)} {q27 k27 d27 p27 e27 t27 : Value}
    {f28 : Addr} {o28 n28 : Option Addr} {s28 : Array (Option Value)} {q28 k28 d28 p28 e28 t28 : Value}
    {f29 : Addr} {o29 n29 : Option Addr} {s29 : Array (Option Value)} {q29 k29 d29 p29 e29 t29 : Value}
    {t_FIGURES : Tok}
    {t_MOST_FIGURES : Tok}
    {t_MOST_PLAYS : Tok}
    {c_TrainError : Addr}
    {c_NoTrain : Addr}
    {c_NoStand : Addr}
    {c_NoPaper : Addr}
    {c_NoBox : Addr}
    {c_NoSwitch : Addr}
    {c_NoPlace : Addr}
    {c_NoTable : Addr}
    {c_NoText : Addr}
    {c_NoRow : Addr}
    {c_NoPiece : Addr}
    {c_NothingLeft : Addr}
    {c_TooMany : Addr}
    (a0 : W.nsIn K mainGlobals "_law_cell_at" = some (some (.ref f0))) (l0 : K.lookup f0 = some ⟨q0, o0, .func (W.fnOf "_law_cell_at" "_law_cell_at" (defArgs s_law_cell_at) (defBody s_law_cell_at) (defScope s_law_cell_at) .none k0 d0 p0 n0 e0 t0), s0⟩) (c0 : W.codeIn K e0 "_law_cell_at" = true) (b0 : W.keepIn K (.ref f0) = true)
    (a1 : W.nsIn K mainGlobals "_law_draws" = some (some (.ref f1))) (l1 : K.lookup f1 = some ⟨q1, o1, .func (W.fnOf "_law_draws" "_law_draws" (defArgs s_law_draws) (defBody s_law_draws) (defScope s_law_draws) .none k1 d1 p1 n1 e1 t1), s1⟩) (c1 : W.codeIn K e1 "_law_draws" = true) (b1 : W.keepIn K (.ref f1) = true)
    (a2 : W.nsIn K mainGlobals "_law_whole" = some (some (.ref f2))) (l2 : K.lookup f2 = some ⟨q2, o2, .func (W.fnOf "_law_whole" "_law_whole" (defArgs s_law_whole) (defBody s_law_whole) (defScope s_law_whole) .none k2 d2 p2 n2 e2 t2), s2⟩) (c2 : W.codeIn K e2 "_law_whole" = true) (b2 : W.keepIn K (.ref f2) = true)
    (a3 : W.nsIn K mainGlobals "_law_a_kin" = some (some (.ref f3))) (l3 : K.lookup f3 = some ⟨q3, o3, .func (W.fnOf "_law_a_kin" "_law_a_kin" (defArgs s_law_a_kin) (defBody s_law_a_kin) (defScope s_law_a_kin) .none k3 d3 p3 n3 e3 t3), s3⟩) (c3 : W.codeIn K e3 "_law_a_kin" = true) (b3 : W.keepIn K (.ref f3) = true)
    (a4 : W.nsIn K mainGlobals "_law_due_kin" = some (some (.ref f4))) (l4 : K.lookup f4 = some ⟨q4, o4, .func (W.fnOf "_law_due_kin" "_law_due_kin" (defArgs s_law_due_kin) (defBody s_law_due_kin) (defScope s_law_due_kin) .none k4 d4 p4 n4 e4 t4), s4⟩) (c4 : W.codeIn K e4 "_law_due_kin" = true) (b4 : W.keepIn K (.ref f4) = true)
    (a5 : W.nsIn K mainGlobals "is_train" = some (some (.ref f5))) (l5 : K.lookup f5 = some ⟨q5, o5, .func (W.fnOf "is_train" "is_train" (defArgs s_is_train) (defBody s_is_train) (defScope s_is_train) .none k5 d5 p5 n5 e5 t5), s5⟩) (c5 : W.codeIn K e5 "is_train" = true) (b5 : W.keepIn K (.ref f5) = true)
    (a6 : W.nsIn K mainGlobals "keeps_plays" = some (some (.ref f6))) (l6 : K.lookup f6 = some ⟨q6, o6, .func (W.fnOf "keeps_plays" "keeps_plays" (defArgs s_keeps_plays) (defBody s_keeps_plays) (defScope s_keeps_plays) .none k6 d6 p6 n6 e6 t6), s6⟩) (c6 : W.codeIn K e6 "keeps_plays" = true) (b6 : W.keepIn K (.ref f6) = true)
    (a7 : W.nsIn K mainGlobals "refuse_no_train" = some (some (.ref f7))) (l7 : K.lookup f7 = some ⟨q7, o7, .func (W.fnOf "refuse_no_train" "refuse_no_train" (defArgs s_refuse_no_train) (defBody s_refuse_no_train) (defScope s_refuse_no_train) .none k7 d7 p7 n7 e7 t7), s7⟩) (c7 : W.codeIn K e7 "refuse_no_train" = true) (b7 : W.keepIn K (.ref f7) = true)
    (a8 : W.nsIn K mainGlobals "is_stand" = some (some (.ref f8))) (l8 : K.lookup f8 = some ⟨q8, o8, .func (W.fnOf "is_stand" "is_stand" (defArgs s_is_stand) (defBody s_is_stand) (defScope s_is_stand) .none k8 d8 p8 n8 e8 t8), s8⟩) (c8 : W.codeIn K e8 "is_stand" = true) (b8 : W.keepIn K (.ref f8) = true)
    (a9 : W.nsIn K mainGlobals "refuse_no_stand" = some (some (.ref f9))) (l9 : K.lookup f9 = some ⟨q9, o9, .func (W.fnOf "refuse_no_stand" "refuse_no_stand" (defArgs s_refuse_no_stand) (defBody s_refuse_no_stand) (defScope s_refuse_no_stand) .none k9 d9 p9 n9 e9 t9), s9⟩) (c9 : W.codeIn K e9 "refuse_no_stand" = true) (b9 : W.keepIn K (.ref f9) = true)
    (a10 : W.nsIn K mainGlobals "is_number" = some (some (.ref f10))) (l10 : K.lookup f10 = some ⟨q10, o10, .func (W.fnOf "is_number" "is_number" (defArgs s_is_number) (defBody s_is_number) (defScope s_is_number) .none k10 d10 p10 n10 e10 t10), s10⟩) (c10 : W.codeIn K e10 "is_number" = true) (b10 : W.keepIn K (.ref f10) = true)
    (a11 : W.nsIn K mainGlobals "are_numbers" = some (some (.ref f11))) (l11 : K.lookup f11 = some ⟨q11, o11, .func (W.fnOf "are_numbers" "are_numbers" (defArgs s_are_numbers) (defBody s_are_numbers) (defScope s_are_numbers) .none k11 d11 p11 n11 e11 t11), s11⟩) (c11 : W.codeIn K e11 "are_numbers" = true) (b11 : W.keepIn K (.ref f11) = true)
    (a12 : W.nsIn K mainGlobals "numbers_of" = some (some (.ref f12))) (l12 : K.lookup f12 = some ⟨q12, o12, .func (W.fnOf "numbers_of" "numbers_of" (defArgs s_numbers_of) (defBody s_numbers_of) (defScope s_numbers_of) .none k12 d12 p12 n12 e12 t12), s12⟩) (c12 : W.codeIn K e12 "numbers_of" = true) (b12 : W.keepIn K (.ref f12) = true)
    (a13 : W.nsIn K mainGlobals "written" = some (some (.ref f13))) (l13 : K.lookup f13 = some ⟨q13, o13, .func (W.fnOf "written" "written" (defArgs s_written) (defBody s_written) (defScope s_written) .none k13 d13 p13 n13 e13 t13), s13⟩) (c13 : W.codeIn K e13 "written" = true) (b13 : W.keepIn K (.ref f13) = true)
    (a14 : W.nsIn K mainGlobals "numbers_behind" = some (some (.ref f14))) (l14 : K.lookup f14 = some ⟨q14, o14, .func (W.fnOf "numbers_behind" "numbers_behind" (defArgs s_numbers_behind) (defBody s_numbers_behind) (defScope s_numbers_behind) .none k14 d14 p14 n14 e14 t14), s14⟩) (c14 : W.codeIn K e14 "numbers_behind" = true) (b14 : W.keepIn K (.ref f14) = true)
    (a15 : W.nsIn K mainGlobals "read" = some (some (.ref f15))) (l15 : K.lookup f15 = some ⟨q15, o15, .func (W.fnOf "read" "read" (defArgs s_read) (defBody s_read) (defScope s_read) .none k15 d15 p15 n15 e15 t15), s15⟩) (c15 : W.codeIn K e15 "read" = true) (b15 : W.keepIn K (.ref f15) = true)
    (a16 : W.nsIn K mainGlobals "shown" = some (some (.ref f16))) (l16 : K.lookup f16 = some ⟨q16, o16, .func (W.fnOf "shown" "shown" (defArgs s_shown) (defBody s_shown) (defScope s_shown) .none k16 d16 p16 n16 e16 t16), s16⟩) (c16 : W.codeIn K e16 "shown" = true) (b16 : W.keepIn K (.ref f16) = true)
    (a17 : W.nsIn K mainGlobals "_law_a_number" = some (some (.ref f17))) (l17 : K.lookup f17 = some ⟨q17, o17, .func (W.fnOf "_law_a_number" "_law_a_number" (defArgs s_law_a_number) (defBody s_law_a_number) (defScope s_law_a_number) .none k17 d17 p17 n17 e17 t17), s17⟩) (c17 : W.codeIn K e17 "_law_a_number" = true) (b17 : W.keepIn K (.ref f17) = true)
    (a18 : W.nsIn K mainGlobals "_law_a_words" = some (some (.ref f18))) (l18 : K.lookup f18 = some ⟨q18, o18, .func (W.fnOf "_law_a_words" "_law_a_words" (defArgs s_law_a_words) (defBody s_law_a_words) (defScope s_law_a_words) .none k18 d18 p18 n18 e18 t18), s18⟩) (c18 : W.codeIn K e18 "_law_a_words" = true) (b18 : W.keepIn K (.ref f18) = true)
    (a19 : W.nsIn K mainGlobals "_law_a_numbers" = some (some (.ref f19))) (l19 : K.lookup f19 = some ⟨q19, o19, .func (W.fnOf "_law_a_numbers" "_law_a_numbers" (defArgs s_law_a_numbers) (defBody s_law_a_numbers) (defScope s_law_a_numbers) .none k19 d19 p19 n19 e19 t19), s19⟩) (c19 : W.codeIn K e19 "_law_a_numbers" = true) (b19 : W.keepIn K (.ref f19) = true)
    (a20 : W.nsIn K mainGlobals "_law_keeps" = some (some (.ref f20))) (l20 : K.lookup f20 = some ⟨q20, o20, .func (W.fnOf "_law_keeps" "_law_keeps" (defArgs s_law_keeps) (defBody s_law_keeps) (defScope s_law_keeps) .none k20 d20 p20 n20 e20 t20), s20⟩) (c20 : W.codeIn K e20 "_law_keeps" = true) (b20 : W.keepIn K (.ref f20) = true)
    (a21 : W.nsIn K mainGlobals "_law_a_fault" = some (some (.ref f21))) (l21 : K.lookup f21 = some ⟨q21, o21, .func (W.fnOf "_law_a_fault" "_law_a_fault" (defArgs s_law_a_fault) (defBody s_law_a_fault) (defScope s_law_a_fault) .none k21 d21 p21 n21 e21 t21), s21⟩) (c21 : W.codeIn K e21 "_law_a_fault" = true) (b21 : W.keepIn K (.ref f21) = true)
    (a22 : W.nsIn K mainGlobals "_law_a_meant" = some (some (.ref f22))) (l22 : K.lookup f22 = some ⟨q22, o22, .func (W.fnOf "_law_a_meant" "_law_a_meant" (defArgs s_law_a_meant) (defBody s_law_a_meant) (defScope s_law_a_meant) .none k22 d22 p22 n22 e22 t22), s22⟩) (c22 : W.codeIn K e22 "_law_a_meant" = true) (b22 : W.keepIn K (.ref f22) = true)
    (a23 : W.nsIn K mainGlobals "_law_a_places" = some (some (.ref f23))) (l23 : K.lookup f23 = some ⟨q23, o23, .func (W.fnOf "_law_a_places" "_law_a_places" (defArgs s_law_a_places) (defBody s_law_a_places) (defScope s_law_a_places) .none k23 d23 p23 n23 e23 t23), s23⟩) (c23 : W.codeIn K e23 "_law_a_places" = true) (b23 : W.keepIn K (.ref f23) = true)
    (a24 : W.nsIn K mainGlobals "_law_a_told" = some (some (.ref f24))) (l24 : K.lookup f24 = some ⟨q24, o24, .func (W.fnOf "_law_a_told" "_law_a_told" (defArgs s_law_a_told) (defBody s_law_a_told) (defScope s_law_a_told) .none k24 d24 p24 n24 e24 t24), s24⟩) (c24 : W.codeIn K e24 "_law_a_told" = true) (b24 : W.keepIn K (.ref f24) = true)
    (a25 : W.nsIn K mainGlobals "_law_shown" = some (some (.ref f25))) (l25 : K.lookup f25 = some ⟨q25, o25, .func (W.fnOf "_law_shown" "_law_shown" (defArgs s_law_shown) (defBody s_law_shown) (defScope s_law_shown) .none k25 d25 p25 n25 e25 t25), s25⟩) (c25 : W.codeIn K e25 "_law_shown" = true) (b25 : W.keepIn K (.ref f25) = true)
    (a26 : W.nsIn K mainGlobals "_law_is_read" = some (some (.ref f26))) (l26 : K.lookup f26 = some ⟨q26, o26, .func (W.fnOf "_law_is_read" "_law_is_read" (defArgs s_law_is_read) (defBody s_law_is_read) (defScope s_law_is_read) .none k26 d26 p26 n26 e26 t26), s26⟩) (c26 : W.codeIn K e26 "_law_is_read" = true) (b26 : W.keepIn K (.ref f26) = true)
    (a27 : W.nsIn K mainGlobals "_law_spoilt" = some (some (.ref f27))) (l27 : K.lookup f27 = some ⟨q27, o27, .func (W.fnOf "_law_spoilt" "_law_spoilt" (defArgs s_law_spoilt) (defBody s_law_spoilt) (defScope s_law_spoilt) .none k27 d27 p27 n27 e27 t27), s27⟩) (c27 : W.codeIn K e27 "_law_spoilt" = true) (b27 : W.keepIn K (.ref f27) = true)
    (a28 : W.nsIn K mainGlobals "_law_train" = some (some (.ref f28))) (l28 : K.lookup f28 = some ⟨q28, o28, .func (W.fnOf "_law_train" "_law_train" (defArgs s_law_train) (defBody s_law_train) (defScope s_law_train) .none k28 d28 p28 n28 e28 t28), s28⟩) (c28 : W.codeIn K e28 "_law_train" = true) (b28 : W.keepIn K (.ref f28) = true)
    (a29 : W.nsIn K mainGlobals "law" = some (some (.ref f29))) (l29 : K.lookup f29 = some ⟨q29, o29, .func (W.fnOf "law" "law" (defArgs s_law) (defBody s_law) (defScope s_law) .none k29 d29 p29 n29 e29 t29), s29⟩) (c29 : W.codeIn K e29 "law" = true) (b29 : W.keepIn K (.ref f29) = true)
    (z_ValueError : PySem.W.nsIn K mainGlobals "ValueError" = some none)
    (z_abs : PySem.W.nsIn K mainGlobals "abs" = some none)
    (z_all : PySem.W.nsIn K mainGlobals "all" = some none)
    (z_bool : PySem.W.nsIn K mainGlobals "bool" = some none)
    (z_int : PySem.W.nsIn K mainGlobals "int" = some none)
    (z_isinstance : PySem.W.nsIn K mainGlobals "isinstance" = some none)
    (z_len : PySem.W.nsIn K mainGlobals "len" = some none)
    (z_list : PySem.W.nsIn K mainGlobals "list" = some none)
    (z_min : PySem.W.nsIn K mainGlobals "min" = some none)
    (z_range : PySem.W.nsIn K mainGlobals "range" = some none)
    (z_str : PySem.W.nsIn K mainGlobals "str" = some none)
    (z_tuple : PySem.W.nsIn K mainGlobals "tuple" = some none)
    (z_zip : PySem.W.nsIn K mainGlobals "zip" = some none)
    (g_FIGURES : PySem.W.nsIn K mainGlobals "FIGURES" = some (some (.str "0123456789" t_FIGURES)))
    (g_MOST_FIGURES : PySem.W.nsIn K mainGlobals "MOST_FIGURES" = some (some (.int 40 t_MOST_FIGURES)))
    (g_MOST_PLAYS : PySem.W.nsIn K mainGlobals "MOST_PLAYS" = some (some (.int 12 t_MOST_PLAYS)))
    (n_TrainError : PySem.W.nsIn K mainGlobals "TrainError" = some (some (.ref c_TrainError)))
    (n_NoTrain : PySem.W.nsIn K mainGlobals "NoTrain" = some (some (.ref c_NoTrain)))
    (n_NoStand : PySem.W.nsIn K mainGlobals "NoStand" = some (some (.ref c_NoStand)))
    (n_NoPaper : PySem.W.nsIn K mainGlobals "NoPaper" = some (some (.ref c_NoPaper)))
    (n_NoBox : PySem.W.nsIn K mainGlobals "NoBox" = some (some (.ref c_NoBox)))
    (n_NoSwitch : PySem.W.nsIn K mainGlobals "NoSwitch" = some (some (.ref c_NoSwitch)))
    (n_NoPlace : PySem.W.nsIn K mainGlobals "NoPlace" = some (some (.ref c_NoPlace)))
    (n_NoTable : PySem.W.nsIn K mainGlobals "NoTable" = some (some (.ref c_NoTable)))
    (n_NoText : PySem.W.nsIn K mainGlobals "NoText" = some (some (.ref c_NoText)))
    (n_NoRow : PySem.W.nsIn K mainGlobals "NoRow" = some (some (.ref c_NoRow)))
    (n_NoPiece : PySem.W.nsIn K mainGlobals "NoPiece" = some (some (.ref c_NoPiece)))
    (n_NothingLeft : PySem.W.nsIn K mainGlobals "NothingLeft" = some (some (.ref c_NothingLeft)))
    (n_TooMany : PySem.W.nsIn K mainGlobals "TooMany" = some (some (.ref c_TooMany)))
    (x_NoTrain : PySem.W.excIn K c_NoTrain [.type "ValueError", .type "Exception", .type "BaseException", .type "object"] "ValueError.__new__" = true)
    (e_NoTrain : PySem.W.exmOne K (.ref c_NoTrain) (.ref c_TrainError) = some true)
    (i_NoTrain_ga : PySem.W.findIn K (.ref c_NoTrain) "__getattribute__" = some (some (.builtin "BaseException.__getattribute__")))
    (i_NoTrain_gt : PySem.W.findIn K (.ref c_NoTrain) "__getattr__" = some none)
    (i_NoTrain_mb : PySem.W.mroIn K c_NoTrain (.type "BaseException") = some true)
    (i_NoTrain_hd : PySem.W.hasDictIn K c_NoTrain = true)
    (i_NoTrain_ca : PySem.W.findIn K (.ref c_NoTrain) "__class__" = some (some (.builtin "object.__class__")))
    (i_NoTrain_sp : PySem.W.specialIn K (.builtin "object.__class__") "__get__" = some (some (.builtin "getset_descriptor.__get__")))
    (i_NoTrain_tk : PySem.W.takesIn K (.builtin "object.__class__") = some true)
    (i_NoTrain_mr : PySem.W.mroIn K c_NoTrain (.type "object") = some true)
    (k_NoTrain_NoTrain : PySem.W.kitOne K (.ref c_NoTrain) (.ref c_NoTrain) = some true)
    (k_NoTrain_NoStand : PySem.W.kitOne K (.ref c_NoTrain) (.ref c_NoStand) = some false)
    (k_NoTrain_NoPaper : PySem.W.kitOne K (.ref c_NoTrain) (.ref c_NoPaper) = some false)
    (k_NoTrain_NoBox : PySem.W.kitOne K (.ref c_NoTrain) (.ref c_NoBox) = some false)
    (k_NoTrain_NoSwitch : PySem.W.kitOne K (.ref c_NoTrain) (.ref c_NoSwitch) = some false)
    (k_NoTrain_NoPlace : PySem.W.kitOne K (.ref c_NoTrain) (.ref c_NoPlace) = some false)
    (k_NoTrain_NoTable : PySem.W.kitOne K (.ref c_NoTrain) (.ref c_NoTable) = some false)
    (k_NoTrain_NoText : PySem.W.kitOne K (.ref c_NoTrain) (.ref c_NoText) = some false)
    (k_NoTrain_NoRow : PySem.W.kitOne K (.ref c_NoTrain) (.ref c_NoRow) = some false)
    (k_NoTrain_NoPiece : PySem.W.kitOne K (.ref c_NoTrain) (.ref c_NoPiece) = some false)
    (k_NoTrain_NothingLeft : PySem.W.kitOne K (.ref c_NoTrain) (.ref c_NothingLeft) = some false)
    (k_NoTrain_TooMany : PySem.W.kitOne K (.ref c_NoTrain) (.ref c_TooMany) = some false)
    (k_NoTrain_ValueError : PySem.W.kitOne K (.ref c_NoTrain) (.type "ValueError") = some true)
    (x_NoStand : PySem.W.excIn K c_NoStand [.type "ValueError", .type "Exception", .type "BaseException", .type "object"] "ValueError.__new__" = true)
    (e_NoStand : PySem.W.exmOne K (.ref c_NoStand) (.ref c_TrainError) = some true)
    (i_NoStand_ga : PySem.W.findIn K (.ref c_NoStand) "__getattribute__" = some (some (.builtin "BaseException.__getattribute__")))
    (i_NoStand_gt : PySem.W.findIn K (.ref c_NoStand) "__getattr__" = some none)
    (i_NoStand_mb : PySem.W.mroIn K c_NoStand (.type "BaseException") = some true)
    (i_NoStand_hd : PySem.W.hasDictIn K c_NoStand = true)
    (i_NoStand_ca : PySem.W.findIn K (.ref c_NoStand) "__class__" = some (some (.builtin "object.__class__")))
    (i_NoStand_sp : PySem.W.specialIn K (.builtin "object.__class__") "__get__" = some (some (.builtin "getset_descriptor.__get__")))
    (i_NoStand_tk : PySem.W.takesIn K (.builtin "object.__class__") = some true)
    (i_NoStand_mr : PySem.W.mroIn K c_NoStand (.type "object") = some true)
    (k_NoStand_NoTrain : PySem.W.kitOne K (.ref c_NoStand) (.ref c_NoTrain) = some false)
    (k_NoStand_NoStand : PySem.W.kitOne K (.ref c_NoStand) (.ref c_NoStand) = some true)
    (k_NoStand_NoPaper : PySem.W.kitOne K (.ref c_NoStand) (.ref c_NoPaper) = some false)
    (k_NoStand_NoBox : PySem.W.kitOne K (.ref c_NoStand) (.ref c_NoBox) = some false)
    (k_NoStand_NoSwitch : PySem.W.kitOne K (.ref c_NoStand) (.ref c_NoSwitch) = some false)
    (k_NoStand_NoPlace : PySem.W.kitOne K (.ref c_NoStand) (.ref c_NoPlace) = some false)
    (k_NoStand_NoTable : PySem.W.kitOne K (.ref c_NoStand) (.ref c_NoTable) = some false)
    (k_NoStand_NoText : PySem.W.kitOne K (.ref c_NoStand) (.ref c_NoText) = some false)
    (k_NoStand_NoRow : PySem.W.kitOne K (.ref c_NoStand) (.ref c_NoRow) = some false)
    (k_NoStand_NoPiece : PySem.W.kitOne K (.ref c_NoStand) (.ref c_NoPiece) = some false)
    (k_NoStand_NothingLeft : PySem.W.kitOne K (.ref c_NoStand) (.ref c_NothingLeft) = some false)
    (k_NoStand_TooMany : PySem.W.kitOne K (.ref c_NoStand) (.ref c_TooMany) = some false)
    (k_NoStand_ValueError : PySem.W.kitOne K (.ref c_NoStand) (.type "ValueError") = some true)
    (x_NoText : PySem.W.excIn K c_NoText [.type "ValueError", .type "Exception", .type "BaseException", .type "object"] "ValueError.__new__" = true)
    (e_NoText : PySem.W.exmOne K (.ref c_NoText) (.ref c_TrainError) = some true)
    (i_NoText_ga : PySem.W.findIn K (.ref c_NoText) "__getattribute__" = some (some (.builtin "BaseException.__getattribute__")))
    (i_NoText_gt : PySem.W.findIn K (.ref c_NoText) "__getattr__" = some none)
    (i_NoText_mb : PySem.W.mroIn K c_NoText (.type "BaseException") = some true)
    (i_NoText_hd : PySem.W.hasDictIn K c_NoText = true)
    (i_NoText_ca : PySem.W.findIn K (.ref c_NoText) "__class__" = some (some (.builtin "object.__class__")))
    (i_NoText_sp : PySem.W.specialIn K (.builtin "object.__class__") "__get__" = some (some (.builtin "getset_descriptor.__get__")))
    (i_NoText_tk : PySem.W.takesIn K (.builtin "object.__class__") = some true)
    (i_NoText_mr : PySem.W.mroIn K c_NoText (.type "object") = some true)
    (k_NoText_NoTrain : PySem.W.kitOne K (.ref c_NoText) (.ref c_NoTrain) = some false)
    (k_NoText_NoStand : PySem.W.kitOne K (.ref c_NoText) (.ref c_NoStand) = some false)
    (k_NoText_NoPaper : PySem.W.kitOne K (.ref c_NoText) (.ref c_NoPaper) = some false)
    (k_NoText_NoBox : PySem.W.kitOne K (.ref c_NoText) (.ref c_NoBox) = some false)
    (k_NoText_NoSwitch : PySem.W.kitOne K (.ref c_NoText) (.ref c_NoSwitch) = some false)
    (k_NoText_NoPlace : PySem.W.kitOne K (.ref c_NoText) (.ref c_NoPlace) = some false)
    (k_NoText_NoTable : PySem.W.kitOne K (.ref c_NoText) (.ref c_NoTable) = some false)
    (k_NoText_NoText : PySem.W.kitOne K (.ref c_NoText) (.ref c_NoText) = some true)
    (k_NoText_NoRow : PySem.W.kitOne K (.ref c_NoText) (.ref c_NoRow) = some false)
    (k_NoText_NoPiece : PySem.W.kitOne K (.ref c_NoText) (.ref c_NoPiece) = some false)
    (k_NoText_NothingLeft : PySem.W.kitOne K (.ref c_NoText) (.ref c_NothingLeft) = some false)
    (k_NoText_TooMany : PySem.W.kitOne K (.ref c_NoText) (.ref c_TooMany) = some false)
    (k_NoText_ValueError : PySem.W.kitOne K (.ref c_NoText) (.type "ValueError") = some true) :
    ∃ fd : FuncData, (∀ (s : Shared) (v : Value), BindsTo s fd ⟨[v], []⟩ [("script", v)]) ∧ ∀ base : Heap, K.In base → base.Ns mainGlobals mg → FnOk l.prog w K mg base CX0 7 fa fd ["script"] (spLaw K) := by
  have e := hfa.symm.trans (PySem.W.mg_of X G a29)
  cases e
  have T : Txt mg := ⟨PySem.W.mg_none_of X G z_ValueError, PySem.W.mg_none_of X G z_abs, PySem.W.mg_none_of X G z_all, PySem.W.mg_none_of X G z_bool, PySem.W.mg_none_of X G z_int, PySem.W.mg_none_of X G z_isinstance, PySem.W.mg_none_of X G z_len, PySem.W.mg_none_of X G z_list, PySem.W.mg_none_of X G z_min, PySem.W.mg_none_of X G z_range, PySem.W.mg_none_of X G z_str, PySem.W.mg_none_of X G z_tuple, PySem.W.mg_none_of X G z_zip, ⟨_, PySem.W.mg_of X G g_FIGURES⟩, ⟨_, PySem.W.mg_of X G g_MOST_FIGURES⟩, ⟨_, PySem.W.mg_of X G g_MOST_PLAYS⟩⟩
  let Z : Cls K mg := ⟨c_TrainError, c_NoTrain, c_NoStand, c_NoPaper, c_NoBox, c_NoSwitch, c_NoPlace, c_NoTable, c_NoText, c_NoRow, c_NoPiece, c_NothingLeft, c_TooMany, PySem.W.mg_of X G n_TrainError, PySem.W.mg_of X G n_NoTrain, PySem.W.mg_of X G n_NoStand, PySem.W.mg_of X G n_NoPaper, PySem.W.mg_of X G n_NoBox, PySem.W.mg_of X G n_NoSwitch, PySem.W.mg_of X G n_NoPlace, PySem.W.mg_of X G n_NoTable, PySem.W.mg_of X G n_NoText, PySem.W.mg_of X G n_NoRow, PySem.W.mg_of X G n_NoPiece, PySem.W.mg_of X G n_NothingLeft, PySem.W.mg_of X G n_TooMany, x_NoTrain, e_NoTrain, i_NoTrain_ga, i_NoTrain_gt, i_NoTrain_mb, i_NoTrain_hd, i_NoTrain_ca, i_NoTrain_sp, i_NoTrain_tk, i_NoTrain_mr, k_NoTrain_NoTrain, k_NoTrain_NoStand, k_NoTrain_NoPaper, k_NoTrain_NoBox, k_NoTrain_NoSwitch, k_NoTrain_NoPlace, k_NoTrain_NoTable, k_NoTrain_NoText, k_NoTrain_NoRow, k_NoTrain_NoPiece, k_NoTrain_NothingLeft, k_NoTrain_TooMany, k_NoTrain_ValueError, x_NoStand, e_NoStand, i_NoStand_ga, i_NoStand_gt, i_NoStand_mb, i_NoStand_hd, i_NoStand_ca, i_NoStand_sp, i_NoStand_tk, i_NoStand_mr, k_NoStand_NoTrain, k_NoStand_NoStand, k_NoStand_NoPaper, k_NoStand_NoBox, k_NoStand_NoSwitch, k_NoStand_NoPlace, k_NoStand_NoTable, k_NoStand_NoText, k_NoStand_NoRow, k_NoStand_NoPiece, k_NoStand_NothingLeft, k_NoStand_TooMany, k_NoStand_ValueError, x_NoText, e_NoText, i_NoText_ga, i_NoText_gt, i_NoText_mb, i_NoText_hd, i_NoText_ca, i_NoText_sp, i_NoText_tk, i_NoText_mr, k_NoText_NoTrain, k_NoText_NoStand, k_NoText_NoPaper, k_NoText_NoBox, k_NoText_NoSwitch, k_NoText_NoPlace, k_NoText_NoTable, k_NoText_NoText, k_NoText_NoRow, k_NoText_NoPiece, k_NoText_NothingLeft, k_NoText_TooMany, k_NoText_ValueError⟩
  have F_law_cell_at := fun_mk (st := s_law_cell_at) l0 c0 b0
  have D_law_cell_at : Def K mg "_law_cell_at" s_law_cell_at := ⟨_, _, F_law_cell_at, W.mg_of X G a0⟩
  have F_law_draws := fun_mk (st := s_law_draws) l1 c1 b1
  have D_law_draws : Def K mg "_law_draws" s_law_draws := ⟨_, _, F_law_draws, W.mg_of X G a1⟩
  have F_law_whole := fun_mk (st := s_law_whole) l2 c2 b2
  have D_law_whole : Def K mg "_law_whole" s_law_whole := ⟨_, _, F_law_whole, W.mg_of X G a2⟩
  have F_law_a_kin := fun_mk (st := s_law_a_kin) l3 c3 b3
  have D_law_a_kin : Def K mg "_law_a_kin" s_law_a_kin := ⟨_, _, F_law_a_kin, W.mg_of X G a3⟩
  have F_law_due_kin := fun_mk (st := s_law_due_kin) l4 c4 b4
  have D_law_due_kin : Def K mg "_law_due_kin" s_law_due_kin := ⟨_, _, F_law_due_kin, W.mg_of X G a4⟩
  have F_is_train := fun_mk (st := s_is_train) l5 c5 b5
  have D_is_train : Def K mg "is_train" s_is_train := ⟨_, _, F_is_train, W.mg_of X G a5⟩
  have F_keeps_plays := fun_mk (st := s_keeps_plays) l6 c6 b6
  have D_keeps_plays : Def K mg "keeps_plays" s_keeps_plays := ⟨_, _, F_keeps_plays, W.mg_of X G a6⟩
  have F_refuse_no_train := fun_mk (st := s_refuse_no_train) l7 c7 b7
  have D_refuse_no_train : Def K mg "refuse_no_train" s_refuse_no_train := ⟨_, _, F_refuse_no_train, W.mg_of X G a7⟩
  have F_is_stand := fun_mk (st := s_is_stand) l8 c8 b8
  have D_is_stand : Def K mg "is_stand" s_is_stand := ⟨_, _, F_is_stand, W.mg_of X G a8⟩
  have F_refuse_no_stand := fun_mk (st := s_refuse_no_stand) l9 c9 b9
  have D_refuse_no_stand : Def K mg "refuse_no_stand" s_refuse_no_stand := ⟨_, _, F_refuse_no_stand, W.mg_of X G a9⟩
  have F_is_number := fun_mk (st := s_is_number) l10 c10 b10
  have D_is_number : Def K mg "is_number" s_is_number := ⟨_, _, F_is_number, W.mg_of X G a10⟩
  have F_are_numbers := fun_mk (st := s_are_numbers) l11 c11 b11
  have D_are_numbers : Def K mg "are_numbers" s_are_numbers := ⟨_, _, F_are_numbers, W.mg_of X G a11⟩
  have F_numbers_of := fun_mk (st := s_numbers_of) l12 c12 b12
  have D_numbers_of : Def K mg "numbers_of" s_numbers_of := ⟨_, _, F_numbers_of, W.mg_of X G a12⟩
  have F_written := fun_mk (st := s_written) l13 c13 b13
  have D_written : Def K mg "written" s_written := ⟨_, _, F_written, W.mg_of X G a13⟩
  have F_numbers_behind := fun_mk (st := s_numbers_behind) l14 c14 b14
  have D_numbers_behind : Def K mg "numbers_behind" s_numbers_behind := ⟨_, _, F_numbers_behind, W.mg_of X G a14⟩
  have F_read := fun_mk (st := s_read) l15 c15 b15
  have D_read : Def K mg "read" s_read := ⟨_, _, F_read, W.mg_of X G a15⟩
  have F_shown := fun_mk (st := s_shown) l16 c16 b16
  have D_shown : Def K mg "shown" s_shown := ⟨_, _, F_shown, W.mg_of X G a16⟩
  have F_law_a_number := fun_mk (st := s_law_a_number) l17 c17 b17
  have D_law_a_number : Def K mg "_law_a_number" s_law_a_number := ⟨_, _, F_law_a_number, W.mg_of X G a17⟩
  have F_law_a_words := fun_mk (st := s_law_a_words) l18 c18 b18
  have D_law_a_words : Def K mg "_law_a_words" s_law_a_words := ⟨_, _, F_law_a_words, W.mg_of X G a18⟩
  have F_law_a_numbers := fun_mk (st := s_law_a_numbers) l19 c19 b19
  have D_law_a_numbers : Def K mg "_law_a_numbers" s_law_a_numbers := ⟨_, _, F_law_a_numbers, W.mg_of X G a19⟩
  have F_law_keeps := fun_mk (st := s_law_keeps) l20 c20 b20
  have D_law_keeps : Def K mg "_law_keeps" s_law_keeps := ⟨_, _, F_law_keeps, W.mg_of X G a20⟩
  have F_law_a_fault := fun_mk (st := s_law_a_fault) l21 c21 b21
  have D_law_a_fault : Def K mg "_law_a_fault" s_law_a_fault := ⟨_, _, F_law_a_fault, W.mg_of X G a21⟩
  have F_law_a_meant := fun_mk (st := s_law_a_meant) l22 c22 b22
  have D_law_a_meant : Def K mg "_law_a_meant" s_law_a_meant := ⟨_, _, F_law_a_meant, W.mg_of X G a22⟩
  have F_law_a_places := fun_mk (st := s_law_a_places) l23 c23 b23
  have D_law_a_places : Def K mg "_law_a_places" s_law_a_places := ⟨_, _, F_law_a_places, W.mg_of X G a23⟩
  have F_law_a_told := fun_mk (st := s_law_a_told) l24 c24 b24
  have D_law_a_told : Def K mg "_law_a_told" s_law_a_told := ⟨_, _, F_law_a_told, W.mg_of X G a24⟩
  have F_law_shown := fun_mk (st := s_law_shown) l25 c25 b25
  have D_law_shown : Def K mg "_law_shown" s_law_shown := ⟨_, _, F_law_shown, W.mg_of X G a25⟩
  have F_law_is_read := fun_mk (st := s_law_is_read) l26 c26 b26
  have D_law_is_read : Def K mg "_law_is_read" s_law_is_read := ⟨_, _, F_law_is_read, W.mg_of X G a26⟩
  have F_law_spoilt := fun_mk (st := s_law_spoilt) l27 c27 b27
  have D_law_spoilt : Def K mg "_law_spoilt" s_law_spoilt := ⟨_, _, F_law_spoilt, W.mg_of X G a27⟩
  have F_law_train := fun_mk (st := s_law_train) l28 c28 b28
  have D_law_train : Def K mg "_law_train" s_law_train := ⟨_, _, F_law_train, W.mg_of X G a28⟩
  have F_law := fun_mk (st := s_law) l29 c29 b29
  have D_law : Def K mg "law" s_law := ⟨_, _, F_law, W.mg_of X G a29⟩
  refine ⟨PySem.W.fnOf "law" "law" (defArgs s_law) (defBody s_law) (defScope s_law) .none k29 d29 p29 n29 e29 t29, fun s v => .of_eq rfl, fun base _ _ => ?_⟩
  have C_law_cell_at := ok_law_cell_at (P := l.prog) (w := w) (base := base) T D_law_cell_at 
  have C_law_draws := ok_law_draws (P := l.prog) (w := w) (base := base) T D_law_draws 
  have C_law_whole := ok_law_whole (P := l.prog) (w := w) (base := base) T D_law_whole 
  have C_law_a_kin := ok_law_a_kin (P := l.prog) (w := w) (base := base) T Z D_law_a_kin 
  have C_law_due_kin := ok_law_due_kin (P := l.prog) (w := w) (base := base) T D_law_due_kin 
  have C_is_train := ok_is_train (P := l.prog) (w := w) (base := base) T D_is_train 
  have C_keeps_plays := ok_keeps_plays (P := l.prog) (w := w) (base := base) T D_keeps_plays 
  have C_refuse_no_train := ok_refuse_no_train (P := l.prog) (w := w) (base := base) T Z D_refuse_no_train (C_is_train := C_is_train)
  have C_is_stand := ok_is_stand (P := l.prog) (w := w) (base := base) T Z D_is_stand (C_refuse_no_train := C_refuse_no_train) (C_keeps_plays := C_keeps_plays)
  have C_refuse_no_stand := ok_refuse_no_stand (P := l.prog) (w := w) (base := base) T Z D_refuse_no_stand (C_is_stand := C_is_stand)
  have C_is_number := ok_is_number (P := l.prog) (w := w) (base := base) T D_is_number 
  have C_are_numbers := ok_are_numbers (P := l.prog) (w := w) (base := base) T D_are_numbers (C_is_number := C_is_number)
  have C_numbers_of := ok_numbers_of (P := l.prog) (w := w) (base := base) T D_numbers_of 
  have C_written := ok_written (P := l.prog) (w := w) (base := base) T D_written 
  have C_numbers_behind := ok_numbers_behind (P := l.prog) (w := w) (base := base) T Z D_numbers_behind (C_are_numbers := C_are_numbers) (C_numbers_of := C_numbers_of)
  have C_read := ok_read (P := l.prog) (w := w) (base := base) T Z D_read (C_numbers_behind := C_numbers_behind) (C_refuse_no_stand := C_refuse_no_stand)
  have C_shown := ok_shown (P := l.prog) (w := w) (base := base) T Z D_shown (C_refuse_no_stand := C_refuse_no_stand) (C_written := C_written)
  have C_law_a_number := ok_law_a_number (P := l.prog) (w := w) (base := base) T D_law_a_number 
  have C_law_a_words := ok_law_a_words (P := l.prog) (w := w) (base := base) T D_law_a_words 
  have C_law_a_numbers := ok_law_a_numbers (P := l.prog) (w := w) (base := base) T D_law_a_numbers (C_law_a_number := C_law_a_number)
  have C_law_keeps := ok_law_keeps (P := l.prog) (w := w) (base := base) T D_law_keeps 
  have C_law_a_fault := ok_law_a_fault (P := l.prog) (w := w) (base := base) T D_law_a_fault (C_law_keeps := C_law_keeps)
  have C_law_a_meant := ok_law_a_meant (P := l.prog) (w := w) (base := base) T D_law_a_meant (C_law_a_numbers := C_law_a_numbers)
  have C_law_a_places := ok_law_a_places (P := l.prog) (w := w) (base := base) T D_law_a_places (C_law_whole := C_law_whole)
  have C_law_a_told := ok_law_a_told (P := l.prog) (w := w) (base := base) T Z D_law_a_told (C_read := C_read) (C_law_a_kin := C_law_a_kin)
  have C_law_shown := ok_law_shown (P := l.prog) (w := w) (base := base) T Z D_law_shown (C_shown := C_shown) (C_law_a_kin := C_law_a_kin)
  have C_law_is_read := ok_law_is_read (P := l.prog) (w := w) (base := base) T D_law_is_read (C_law_whole := C_law_whole) (C_law_a_places := C_law_a_places)
  have C_law_spoilt := ok_law_spoilt (P := l.prog) (w := w) (base := base) T D_law_spoilt 
  have C_law_train := ok_law_train (P := l.prog) (w := w) (base := base) T D_law_train (C_law_draws := C_law_draws) (C_law_cell_at := C_law_cell_at)
  exact ok_law F_law T Z (C_law_train := C_law_train) (C_law_draws := C_law_draws) (C_law_cell_at := C_law_cell_at) (C_law_a_words := C_law_a_words) (C_law_spoilt := C_law_spoilt) (C_law_a_meant := C_law_a_meant) (C_law_a_fault := C_law_a_fault) (C_law_a_told := C_law_a_told) (C_law_due_kin := C_law_due_kin) (C_law_is_read := C_law_is_read) (C_law_shown := C_law_shown)
theorem walk {l : PySem.W.OpenLaw} {q : Program} {loose : List Str} {XP : (Str → Option Value) → Heap → Prop} {YP : World → Heap → Prop} {d : DefRec} {K : Params → PySem.W.Frag} (hn : l.most = some 63) (hdf : d.params.defaults = [])
    (hY : ∀ (w : World) (h : Heap), YP w h → (K w.params).In h)
    (F : ∀ (w : World) (mg : Str → Option Value) (fa : Addr) (h : Heap), (K w.params).In h → h.Ns mainGlobals mg → mg d.name = some (.ref fa) →
      ∃ fd : FuncData, (∀ (s : Shared) (u : Value), BindsTo s fd ⟨[u], []⟩ [("script", u)]) ∧ ∀ base : Heap, (K w.params).In base → base.Ns mainGlobals mg → FnOk l.prog w (K w.params) mg base CX0 7 fa fd ["script"] (spLaw (K w.params))) :
    PySem.W.WalkO q loose XP YP l.row.toRowW d [] (fun f vs => PySem.call f vs) :=
  L2.walk_of (n := 63) (k := 7) (x := "script") (CX := fun _ => CX0) (sp := fun w => spLaw (K w.params)) hn (by decide) hdf ⟨rfl, by decide, by decide⟩ hY F (fun _ _ a ns hl _ hS => ⟨a, ns, rfl, hS, hl, fun _ => rfl⟩) fun _ _ _ _ _ z => z
end My
inductive PySem.W.Fast : Prop where
| tw17454939823169585445
| tw962725463612968334
| tw18274834895267903487
| tw13724132965320956002
| tw14143454623885778502
| tw4765367034667304056
| tw7623748325800210482
| tw6393038400388442706
| tw7742796941930390358
| tw17591490023750736699
| tw16779894406553869837
| tw6383339729925975638
| tw4235527418942775655
| tw16786304792953715516
| tw493930809886122631
| tw14601512374671396046
| tw10439615395687197567
| tw13974769943132351401
| tw1379919716773347930
| tw7657836798296467728
| tw8652126148856460916
| tw6826993124498652913
| tw4657149920748910396
| tw14899665162868608066
| tw17012770848137710644
| tw7513124080114484048
| tw17148773268046845230
| tw4181168780405257564
| tw8875683551869759212
| tw6212995268431439749
| tw404549648341262340
| tw7951337922650415527
| tw5390779321930061683
| tw9532314323651663387
| tw10383040621322801509
| tw4231346927049953799
| tw15697909409808654235
| tw11069866127727613508
| tw16434855915793684552
| tw181312291462368602
| tw549650819367810836
| tw9006208075877569872
| tw2725052331914105404
| tw2695042353299364643
| tw110267296694467573
| tw14084813993846573124
| tw6087077038115043339
| tw13389775228931183279
| tw6748279403703245705
| tw9164698883122117547
| tw4794069964417315211
| tw15750746738969861114
| tw12746545544473315959
| tw13494554733817327409
| tw8717521083634046234
| tw15275801014362959913
| tw15402958263920542038
| tw15540297872404891149
| tw8609189477163058287
| tw13863757238857100108
| tw1786091543581631196
| tw13909180120044034973
| tw1874042262293912282
| tw14516843349182193138
| tw16471946776906576032
| tw7617656711054811721
| tw16029257809397856942
| tw9959582849192548351
| tw922734684028755784
| tw17271003418404533650
| tw4252509128472941976
| tw10551792613893080573
| tw11637209790286278437
| tw17152564059651005868
| tw5857863555453524986
| tw8852763904933779181
| tw2526466121053203082
| tw2124181138404295989
| tw17496738156837755236
| tw10984020007495519594
| tw17600749706332629154
| tw8685923626443178299
| tw14194928786766003401
| tw13927371912155880017
| tw10332490655813248272
| tw17931955437310994434
| tw15423495651874952570
| tw688792753599717884
| tw17569109711803906029
| tw10191658119146721382
| tw11427292414354865618
| tw16450742296693163737
| tw17685135194558367256
| tw16537026510782230143
| tw13437672331536701568
| tw17647638223538557738
| tw13526728917034666120
| tw5688265089965880199
| tw7945994868259109722
| tw11709794442505593565
| tw8944856831171400714
| tw6299445130946620695
| tw4663139789087882088
| tw17846520838658892253
| tw10298298442602855794
| tw13841864592150731811
| tw4532943045691346961
| tw11454727212546282182
| tw16766065284016797675
| tw16247515246329770894
| tw12144556682106659092
| tw8032369277070485528
| tw13359076263116836272
| tw17628777843753645209
| tw8792906069434833208
| tw13019393706994253475
| tw6918297574656420300
| tw4656774595623353312
| tw13773630983013902979
| tw2205237780251161276
| tw17874410652049461722
| tw8876945760300345016
| tw14221016160171855471
| tw14343174079269268170
| tw8455007753453727546
| tw14626342394683284913
| tw1313792919699772166
| tw14745634776662038402
| tw6969553614314893011
| tw15494779037639778892
| tw333037616218831395
| tw7201981499088155302
| tw2652620644512803602
| tw8506984714313526496
| tw17770792171411622556
| tw3879494095226540140
| tw11042590643785363197
| tw818370105530750702
| tw10974612912811778577
| tw18342468013684083921
| tw12661873049918474549
| tw7258477298102433513
| tw17485212175002840758
| tw10680173409813720786
| tw14326065342165707438
| tw3591227527088712485
| tw10051994420928779328
| tw12963880885083404045
| tw10047314989054430444
| tw12532011115111224367
| tw6072192004968443281
| tw14926480648393346092
| tw8052270927763671082
| tw9838986476333368674
| tw14933413178060784615
| tw17206849693254239911
| tw11465605317965916069
| tw238495896468667741
| tw15606051642232236998
| tw15119284116720397933
| tw11946070206823093824
| tw3450417213999881068
| tw9372394969707226355
| tw15306391230656726651
| tw10020805398802504940
| tw2046635418933524167
| tw313733520046790053
| tw1017364260911470640
| tw17355930956935829846
| tw4523226706621884850
| tw8825801139218261505
| tw12888529104962588230
| tw3649134043732646878
| tw8398168860529329809
| tw2135018910514279622
| tw15024268208193709217
| tw12624613509807001542
| tw403058606352597494
| tw14303597243142761452
| tw17365393872948755793
| tw15052930626565715196
| tw16778174086716711136
| tw5368299216988099357
| tw14276532056747693665
| tw1933843133689571234
| tw1503735227381605818
| tw16749190091279149219
| tw8950986397627006279
| tw3035179325293143544
| tw17413881211827998381
| tw15906489815362686755
| tw13503099954583867816
| tw14557012721983541810
| tw13045654243717326856
| tw14104590772562313387
| tw285754886167673132
| tw18264679961719680388
| tw17669201846651920588
| tw9018812014062456464
| tw12174073474484873972
| tw14078174752079924149
| tw13451118422654336619
| tw12530684655893367735
| tw14919843762746885804
| tw17128901500437571460
| tw7546227673404996191
| tw631693162658893095
| tw12238667932867542274
| tw8468330094622033301
| tw1986102865067019707
| tw3313189733601902131
| tw3624900475427381358
| tw10817238708481380822
| tw4951648453288759156
| tw14754948962241893421
| tw1809814597835554851
| tw3326813424162808428
| tw2375770174762859927
| tw4596160846349272369
| tw3222117437952930737
| tw6673241917954514344
| tw14156196835970964070
| tw4707500293156014131
| tw13856510887947577326
| tw17501268634432415836
| tw11149316453897419711
| tw11067795941156727250
| tw2253430457546643145
| tw13596618685880975723
| tw13377122465955054546
| tw14705315083108658017
| tw2972144748783022971
| tw141477470547113459
| tw4882630473599411164
| tw16967369840142227563
| tw18291121780946930160
| tw16975386608189377492
| tw12034175789851038650
| tw15054565876403026956
| tw14861611546680240187
| tw13070589971875329114
| tw15293650120266081100
| tw483254249682540998
| tw4197033852026622363
| tw6150721019610833054
| tw450528367235117715
| tw5979317589843042587
| tw15592015389364033903
| tw7901019858425822129
| tw17164141077823109309
| tw654250670588490092
| tw7339840591688541100
| tw7835164174030160338
| tw1033734375241853534
| tw15007351510359378647
| tw10492089316677767231
| tw14039675046281827134
| tw1094225395715189090
| tw2639368085933797127
| tw8139776761011933002
| tw28641510477806421
| tw7515295822278586487
| tw5085263819543411379
| tw4323106648250403655
| tw9271480633821488789
| tw11457103101771086403
| tw12070919597634394671
| tw9594205417239250325
| tw8614890891684325221
| tw16490566406335352171
| tw701250693729958519
| tw2674490818152529255
| tw2239361928600466003
| tw14508844976481458416
| tw6935414500033866908
| tw797196471640130103
| tw9641047301744334091
| tw4064734409179211882
| tw10435603667575064941
| tw15219604480364011211
| tw1540488481677910738
| tw1668084660720937848
| tw14319539831798852736
| tw17232717569306112858
| tw11607345272968308080
| tw7807504860611539956
| tw3677163978510165498
| tw3444533542863109233
| tw895702393562469265
| tw1256905093863401955
| tw15534512097127200633
| tw9756091611399632914
| tw17952214938638206651
| tw14221795954347525213
| tw596889491313454799
| tw4313302408763692204
| tw11800623495725018522
| tw8746407260618423521
| tw411861272368862854
| tw15910507215539259288
| tw16040097702369071925
| tw9332732799590072528
| tw5525379966934355661
| tw643759797710155564
| tw5672302488519687376
| tw10260632549834923186
| tw13265527537031571673
| tw1881943909016188518
| tw10244504199799449510
| tw12079987041894866176
| tw13735106512503036324
| tw4020339099276899917
| tw2778844286875789810
| tw9187925935674926755
| tw15007689774488479991
| tw17336500377594996938
| tw1151120024345559575
| tw16150338718045474771
| tw8160093310133144338
| tw2512147315025819590
| tw16314508729696003528
| tw4797415702822895447
| tw13359846190749610951
| tw11865300525829946592
| tw14138905367301575912
| tw9404261026044344490
| tw14804899944435462047
| tw3043928631726995332
| tw11317903655534860345
| tw7765617656710826059
| tw16445586493838824218
| tw5642412891155157433
| tw6845442243614154545
| tw8072673542948061731
| tw16070560377972388704
| tw15917481278678608699
| tw12108568139247813063
| tw2085413296898971091
| tw14220227656599377112
| tw6745201689096272071
| tw13035713913018309423
| tw1816726057301658139
| tw7895031741491783183
| tw18237465042393261618
| tw14333768028165025346
| tw805399014688447867
| tw18014372377194650497
| tw9523234794326057394
| tw3285255248071168195
| tw12631233598197752543
| tw3632493944385336597
| tw14920586287466032410
| tw14577596783192582384
| tw12856526418681969665
| tw5017050860881850307
| tw2205223095202757583
| tw10944610091623028760
| tw7034853494071940580
| tw16229073798403653545
| tw14885249202296386654
| tw7467513488486236260
| tw10978501248785987295
| tw17663844879541433994
| tw18112252003271193900
| tw16312785158390426040
| tw18150830810304246593
| tw17513521814780810674
| tw5439307085785710410
| tw11424871476138739536
| tw5983939519822898025
| tw6706185169878344594
| tw11259318026514574960
open PySem PySem.W PyProof.Rows
set_option maxRecDepth 100000 in
set_option maxHeartbeats 0 in
theorem PySem.Challenge.cw_lugtrain_k31_texts_read_and_shown_holds : PySem.Challenge.rw_lugtrain_k31_texts_read_and_shown.Holds := by
  w_on; o_law; k_head; (case hw => w_witness2)
  k_fill
  refine My.walk (l := PySem.Challenge.rw_lugtrain_k31_texts_read_and_shown) rfl rfl (fun w h Y => PySem.W.kIn_of Y) ?F
  case F =>
    intro w mg fa h KX G hmg
    refine' My.all_mk KX G hmg ?a0 ?l0 ?c0 ?b0 ?a1 ?l1 ?c1 ?b1 ?a2 ?l2 ?c2 ?b2 ?a3 ?l3 ?c3 ?b3 ?a4 ?l4 ?c4 ?b4 ?a5 ?l5 ?c5 ?b5 ?a6 ?l6 ?c6 ?b6 ?a7 ?l7 ?c7 ?b7 ?a8 ?l8 ?c8 ?b8 ?a9 ?l9 ?c9 ?b9 ?a10 ?l10 ?c10 ?b10 ?a11 ?l11 ?c11 ?b11 ?a12 ?l12 ?c12 ?b12 ?a13 ?l13 ?c13 ?b13 ?a14 ?l14 ?c14 ?b14 ?a15 ?l15 ?c15 ?b15 ?a16 ?l16 ?c16 ?b16 ?a17 ?l17 ?c17 ?b17 ?a18 ?l18 ?c18 ?b18 ?a19 ?l19 ?c19 ?b19 ?a20 ?l20 ?c20 ?b20 ?a21 ?l21 ?c21 ?b21 ?a22 ?l22 ?c22 ?b22 ?a23 ?l23 ?c23 ?b23 ?a24 ?l24 ?c24 ?b24 ?a25 ?l25 ?c25 ?b25 ?a26 ?l26 ?c26 ?b26 ?a27 ?l27 ?c27 ?b27 ?a28 ?l28 ?c28 ?b28 ?a29 ?l29 ?c29 ?b29 ?z_ValueError ?z_abs ?z_all ?z_bool ?z_int ?z_isinstance ?z_len ?z_list ?z_min ?z_range ?z_str ?z_tuple ?z_zip ?g_FIGURES ?g_MOST_FIGURES ?g_MOST_PLAYS ?n_TrainError ?n_NoTrain ?n_NoStand ?n_NoPaper ?n_NoBox ?n_NoSwitch ?n_NoPlace ?n_NoTable ?n_NoText ?n_NoRow ?n_NoPiece ?n_NothingLeft ?n_TooMany ?x_NoTrain ?e_NoTrain ?i_NoTrain_ga ?i_NoTrain_gt ?i_NoTrain_mb ?i_NoTrain_hd ?i_NoTrain_ca ?i_NoTrain_sp ?i_NoTrain_tk ?i_NoTrain_mr ?k_NoTrain_NoTrain ?k_NoTrain_NoStand ?k_NoTrain_NoPaper ?k_NoTrain_NoBox ?k_NoTrain_NoSwitch ?k_NoTrain_NoPlace ?k_NoTrain_NoTable ?k_NoTrain_NoText ?k_NoTrain_NoRow ?k_NoTrain_NoPiece ?k_NoTrain_NothingLeft ?k_NoTrain_TooMany ?k_NoTrain_ValueError ?x_NoStand ?e_NoStand ?i_NoStand_ga ?i_NoStand_gt ?i_NoStand_mb ?i_NoStand_hd ?i_NoStand_ca ?i_NoStand_sp ?i_NoStand_tk ?i_NoStand_mr ?k_NoStand_NoTrain ?k_NoStand_NoStand ?k_NoStand_NoPaper ?k_NoStand_NoBox ?k_NoStand_NoSwitch ?k_NoStand_NoPlace ?k_NoStand_NoTable ?k_NoStand_NoText ?k_NoStand_NoRow ?k_NoStand_NoPiece ?k_NoStand_NothingLeft ?k_NoStand_TooMany ?k_NoStand_ValueError ?x_NoText ?e_NoText ?i_NoText_ga ?i_NoText_gt ?i_NoText_mb ?i_NoText_hd ?i_NoText_ca ?i_NoText_sp ?i_NoText_tk ?i_NoText_mr ?k_NoText_NoTrain ?k_NoText_NoStand ?k_NoText_NoPaper ?k_NoText_NoBox ?k_NoText_NoSwitch ?k_NoText_NoPlace ?k_NoText_NoTable ?k_NoText_NoText ?k_NoText_NoRow ?k_NoText_NoPiece ?k_NoText_NothingLeft ?k_NoText_TooMany ?k_NoText_ValueError
    (case a0 => k_is)
    (case l0 => k_is)
    (case c0 => k_is)
    (case b0 => k_is)
    (case a1 => k_is)
    (case l1 => k_is)
    (case c1 => k_is)
    (case b1 => k_is)
    (case a2 => k_is)
    (case l2 => k_is)
    (case c2 => k_is)
    (case b2 => k_is)
    (case a3 => k_is)
    (case l3 => k_is)
    (case c3 => k_is)
    (case b3 => k_is)
    (case a4 => k_is)
    (case l4 => k_is)
    (case c4 => k_is)
    (case b4 => k_is)
    (case a5 => k_is)
    (case l5 => k_is)
    (case c5 => k_is)
    (case b5 => k_is)
    (case a6 => k_is)
    (case l6 => k_is)
    (case c6 => k_is)
    (case b6 => k_is)
    (case a7 => k_is)
    (case l7 => k_is)
    (case c7 => k_is)
    (case b7 => k_is)
    (case a8 => k_is)
    (case l8 => k_is)
    (case c8 => k_is)
    (case b8 => k_is)
    (case a9 => k_is)
    (case l9 => k_is)
    (case c9 => k_is)
    (case b9 => k_is)
    (case a10 => k_is)
    (case l10 => k_is)
    (case c10 => k_is)
    (case b10 => k_is)
    (case a11 => k_is)
    (case l11 => k_is)
    (case c11 => k_is)
    (case b11 => k_is)
    (case a12 => k_is)
    (case l12 => k_is)
    (case c12 => k_is)
    (case b12 => k_is)
    (case a13 => k_is)
    (case l13 => k_is)
    (case c13 => k_is)
    (case b13 => k_is)
    (case a14 => k_is)
    (case l14 => k_is)
    (case c14 => k_is)
    (case b14 => k_is)
    (case a15 => k_is)
    (case l15 => k_is)
    (case c15 => k_is)
    (case b15 => k_is)
    (case a16 => k_is)
    (case l16 => k_is)
    (case c16 => k_is)
    (case b16 => k_is)
    (case a17 => k_is)
    (case l17 => k_is)
    (case c17 => k_is)
    (case b17 => k_is)
    (case a18 => k_is)
    (case l18 => k_is)
    (case c18 => k_is)
    (case b18 => k_is)
    (case a19 => k_is)
    (case l19 => k_is)
    (case c19 => k_is)
    (case b19 => k_is)
    (case a20 => k_is)
    (case l20 => k_is)
    (case c20 => k_is)
    (case b20 => k_is)
    (case a21 => k_is)
    (case l21 => k_is)
    (case c21 => k_is)
    (case b21 => k_is)
    (case a22 => k_is)
    (case l22 => k_is)
    (case c22 => k_is)
    (case b22 => k_is)
    (case a23 => k_is)
    (case l23 => k_is)
    (case c23 => k_is)
    (case b23 => k_is)
    (case a24 => k_is)
    (case l24 => k_is)
    (case c24 => k_is)
    (case b24 => k_is)
    (case a25 => k_is)
    (case l25 => k_is)
    (case c25 => k_is)
    (case b25 => k_is)
    (case a26 => k_is)
    (case l26 => k_is)
    (case c26 => k_is)
    (case b26 => k_is)
    (case a27 => k_is)
    (case l27 => k_is)
    (case c27 => k_is)
    (case b27 => k_is)
    (case a28 => k_is)
    (case l28 => k_is)
    (case c28 => k_is)
    (case b28 => k_is)
    (case a29 => k_is)
    (case l29 => k_is)
    (case c29 => k_is)
    (case b29 => k_is)
    (case z_ValueError => k_is)
    (case z_abs => k_is)
    (case z_all => k_is)
    (case z_bool => k_is)
    (case z_int => k_is)
    (case z_isinstance => k_is)
    (case z_len => k_is)
    (case z_list => k_is)
    (case z_min => k_is)
    (case z_range => k_is)
    (case z_str => k_is)
    (case z_tuple => k_is)
    (case z_zip => k_is)
    (case g_FIGURES => k_is)
    (case g_MOST_FIGURES => k_is)
    (case g_MOST_PLAYS => k_is)
    (case n_TrainError => k_is)
    (case n_NoTrain => k_is)
    (case n_NoStand => k_is)
    (case n_NoPaper => k_is)
    (case n_NoBox => k_is)
    (case n_NoSwitch => k_is)
    (case n_NoPlace => k_is)
    (case n_NoTable => k_is)
    (case n_NoText => k_is)
    (case n_NoRow => k_is)
    (case n_NoPiece => k_is)
    (case n_NothingLeft => k_is)
    (case n_TooMany => k_is)
    (case x_NoTrain => k_exc)
    (case e_NoTrain => kts_exm)
    (case i_NoTrain_ga => k_is)
    (case i_NoTrain_gt => k_is)
    (case i_NoTrain_mb => k_is)
    (case i_NoTrain_hd => k_is)
    (case i_NoTrain_ca => k_is)
    (case i_NoTrain_sp => k_is)
    (case i_NoTrain_tk => k_is)
    (case i_NoTrain_mr => k_is)
    (case k_NoTrain_NoTrain => kit_is)
    (case k_NoTrain_NoStand => kit_is)
    (case k_NoTrain_NoPaper => kit_is)
    (case k_NoTrain_NoBox => kit_is)
    (case k_NoTrain_NoSwitch => kit_is)
    (case k_NoTrain_NoPlace => kit_is)
    (case k_NoTrain_NoTable => kit_is)
    (case k_NoTrain_NoText => kit_is)
    (case k_NoTrain_NoRow => kit_is)
    (case k_NoTrain_NoPiece => kit_is)
    (case k_NoTrain_NothingLeft => kit_is)
    (case k_NoTrain_TooMany => kit_is)
    (case k_NoTrain_ValueError => kit_is)
    (case x_NoStand => k_exc)
    (case e_NoStand => kts_exm)
    (case i_NoStand_ga => k_is)
    (case i_NoStand_gt => k_is)
    (case i_NoStand_mb => k_is)
    (case i_NoStand_hd => k_is)
    (case i_NoStand_ca => k_is)
    (case i_NoStand_sp => k_is)
    (case i_NoStand_tk => k_is)
    (case i_NoStand_mr => k_is)
    (case k_NoStand_NoTrain => kit_is)
    (case k_NoStand_NoStand => kit_is)
    (case k_NoStand_NoPaper => kit_is)
    (case k_NoStand_NoBox => kit_is)
    (case k_NoStand_NoSwitch => kit_is)
    (case k_NoStand_NoPlace => kit_is)
    (case k_NoStand_NoTable => kit_is)
    (case k_NoStand_NoText => kit_is)
    (case k_NoStand_NoRow => kit_is)
    (case k_NoStand_NoPiece => kit_is)
    (case k_NoStand_NothingLeft => kit_is)
    (case k_NoStand_TooMany => kit_is)
    (case k_NoStand_ValueError => kit_is)
    (case x_NoText => k_exc)
    (case e_NoText => kts_exm)
    (case i_NoText_ga => k_is)
    (case i_NoText_gt => k_is)
    (case i_NoText_mb => k_is)
    (case i_NoText_hd => k_is)
    (case i_NoText_ca => k_is)
    (case i_NoText_sp => k_is)
    (case i_NoText_tk => k_is)
    (case i_NoText_mr => k_is)
    (case k_NoText_NoTrain => kit_is)
    (case k_NoText_NoStand => kit_is)
    (case k_NoText_NoPaper => kit_is)
    (case k_NoText_NoBox => kit_is)
    (case k_NoText_NoSwitch => kit_is)
    (case k_NoText_NoPlace => kit_is)
    (case k_NoText_NoTable => kit_is)
    (case k_NoText_NoText => kit_is)
    (case k_NoText_NoRow => kit_is)
    (case k_NoText_NoPiece => kit_is)
    (case k_NoText_NothingLeft => kit_is)
    (case k_NoText_TooMany => kit_is)
    (case k_NoText_ValueError => kit_is)

