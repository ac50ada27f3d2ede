import PyProof.Rows.All
import Wide.All
import OpenK.AllK
import Wide.FinOn
import Lean
import PyProof.EqAt
import PyProof.EqKinds
import PyProof.TupleCall
import PyProof.StationsW
import PyProof.ExcAttrAll.ValueError
import PySem.Challenge.RW_lugtrain_k36_grabs_by_hand

set_option Elab.async false
set_option linter.all false
set_option maxRecDepth 100000
/-! THE HAND LAYER, for ints, bools, texts, own classes, LISTS and tuples (index, slices, in, append, pop ..), calls, loops. Paste it whole ahead of your own text; what your proof does not reach may be deleted. -/
namespace L2
open PySem PySem.Spec PyProof.Rows

/-- a key: an int or a str -/
abbrev Key := Sum Int Str
def keyIs : Key → Value → Bool
  | .inl k, v => Value.isInt k v
  | .inr x, v => Value.isStrOf x v
def keyH (w : World) : Key → Int
  | .inl k => hashInt k
  | .inr x => hashStr w x
theorem keyIs_shape : ∀ {k : Key} {v : Value}, keyIs k v = true → (∃ i t, k = Sum.inl i ∧ v = Value.int i t) ∨ (∃ x t, k = Sum.inr x ∧ v = Value.str x t)
  | .inl i, v, h => by
    obtain ⟨t, e⟩ := Value.isInt_shape (k := i) (v := v) h
    exact .inl ⟨i, t, rfl, e⟩
  | .inr x, v, h => by
    obtain ⟨t, e⟩ := Value.isStrOf_shape (x := x) (v := v) h
    exact .inr ⟨x, t, rfl, e⟩
theorem key_ll (a b : Int) : decide ((Sum.inl a : Key) = Sum.inl b) = (a == b) := by
  by_cases e : a = b
  · subst e; simp
  · have h : ¬ (Sum.inl a : Key) = Sum.inl b := fun q => e (Sum.inl.inj q)
    rw [decide_eq_false h]
    exact (beq_eq_false_iff_ne.mpr e).symm
theorem key_rr (a b : Str) : decide ((Sum.inr a : Key) = Sum.inr b) = decide (a = b) := by
  by_cases e : a = b
  · subst e; simp
  · have h : ¬ (Sum.inr a : Key) = Sum.inr b := fun q => e (Sum.inr.inj q)
    rw [decide_eq_false h, decide_eq_false e]
theorem key_lr (a : Int) (b : Str) : decide ((Sum.inl a : Key) = Sum.inr b) = false := decide_eq_false (fun q => nomatch q)
theorem key_rl (a : Str) (b : Int) : decide ((Sum.inr a : Key) = Sum.inl b) = false := decide_eq_false (fun q => nomatch q)

def mixKind (prog : Program) (w : World) : PySem.KeyKind prog w Key where
  is := keyIs
  hash := keyH w
  inj := fun v a b ha hb => by
    rcases keyIs_shape ha with ⟨i, t, rfl, rfl⟩ | ⟨x, t, rfl, rfl⟩
    · rcases keyIs_shape hb with ⟨j, u, rfl, e⟩ | ⟨y, u, rfl, e⟩
      · injection e with e1 _; rw [e1]
      · exact nomatch e
    · rcases keyIs_shape hb with ⟨j, u, rfl, e⟩ | ⟨y, u, rfl, e⟩
      · exact nomatch e
      · injection e with e1 _; rw [e1]
  byValue := fun k v h => by
    rcases keyIs_shape h with ⟨i, t, rfl, rfl⟩ | ⟨x, t, rfl, rfl⟩ <;> rfl
  pyHash := fun hv h => by
    rcases keyIs_shape hv with ⟨i, t, rfl, rfl⟩ | ⟨x, t, rfl, rfl⟩
    · exact wpAny_pyHash_int h
    · exact wpAny_pyHash_str h
  eqBool := fun hu hv h => by
    rcases keyIs_shape hu with ⟨i, t, rfl, rfl⟩ | ⟨x, t, rfl, rfl⟩
    · rcases keyIs_shape hv with ⟨j, u, rfl, rfl⟩ | ⟨y, u, rfl, rfl⟩
      · rw [key_ll] at h; exact wpAny_eqBool_int h
      · rw [key_lr] at h; exact SeqAt.EqAt.int_str i t y u _ _ _ _ h
    · rcases keyIs_shape hv with ⟨j, u, rfl, rfl⟩ | ⟨y, u, rfl, rfl⟩
      · rw [key_rl] at h; exact SeqAt.EqAt.str_int x t j u _ _ _ _ h
      · rw [key_rr] at h; exact wpAny_eqBool_str h
  «strs» := fun k x t v h => by
    rcases keyIs_shape h with ⟨i, u, rfl, e⟩ | ⟨y, u, rfl, e⟩
    · exact nomatch e
    · injection e with e1 _
      subst e1
      cases v <;> rfl

end L2

namespace L2
open PySem PySem.Spec PyProof.Rows

/-- a value, without the heap -/
inductive V where
  | non | bl (b : Bool) | int (i : Int) | str (x : Str) | byt (b : Array UInt8) | flt (b : UInt64) | ref (a : Addr) | ty (n : String)
  deriving DecidableEq

def RelV : V → Value → Prop
  | .non, u => u = Value.none
  | .bl b, u => u = Value.bool b
  | .int i, u => ∃ t, u = Value.int i t
  | .str x, u => ∃ t, u = Value.str x t
  | .byt b, u => ∃ t, u = Value.bytes b t
  | .flt b, u => ∃ t, u = Value.float b t
  | .ref a, u => u = Value.ref a
  | .ty n, u => u = Value.type n

abbrev Vals : List V → List Value → Prop := Paired RelV
theorem Vals.length {xs : List V} {us : List Value} (r : Vals xs us) : xs.length = us.length := Paired.length r
theorem Vals.get : ∀ {xs : List V} {us : List Value} {i : Nat} {x : V}, Vals xs us → xs[i]? = some x → ∃ u, us[i]? = some u ∧ RelV x u
  | _, _, _, _, .nil, e => by simp at e
  | _, _, 0, _, .cons r _, e => by simp at e; subst e; exact ⟨_, rfl, r⟩
  | _, _, i + 1, x, .cons _ t, e => by
    obtain ⟨u, h1, h2⟩ := Vals.get (i := i) (x := x) t (by simpa using e)
    exact ⟨u, by simpa using h1, h2⟩
theorem Vals.set {x : V} {u : Value} (r : RelV x u) : ∀ {xs : List V} {us : List Value} (i : Nat), Vals xs us → Vals (xs.set i x) (us.set i u)
  | _, _, _, .nil => .nil
  | _, _, 0, .cons _ t => .cons r t
  | _, _, i + 1, .cons q t => .cons q (Vals.set r i t)
theorem Vals.append : ∀ {xs ys : List V} {us ws : List Value}, Vals xs us → Vals ys ws → Vals (xs ++ ys) (us ++ ws)
  | _, _, _, _, .nil, s => s
  | _, _, _, _, .cons r t, s => .cons r (Vals.append t s)
theorem Vals.take : ∀ {xs : List V} {us : List Value} (n : Nat), Vals xs us → Vals (xs.take n) (us.take n)
  | _, _, 0, _ => .nil
  | _, _, _ + 1, .nil => .nil
  | _, _, n + 1, .cons r t => .cons r (Vals.take n t)
theorem Vals.drop : ∀ {xs : List V} {us : List Value} (n : Nat), Vals xs us → Vals (xs.drop n) (us.drop n)
  | _, _, 0, r => r
  | _, _, _ + 1, .nil => .nil
  | _, _, n + 1, .cons _ t => Vals.drop n t
def RelO : Option V → Option Value → Prop
  | some v, some u => RelV v u
  | none, none => True
  | _, _ => False
def KV {κ : Type} : List (κ × V) → List (κ × Value) → Prop := Paired fun (p : κ × V) (q : κ × Value) => p.1 = q.1 ∧ RelV p.2 q.2

/-- a key of a dict (00_mix): an int or a text -/
def kV : Key → V
  | .inl i => .int i
  | .inr x => .str x

/-- what stands at a tracked address -/
inductive HO where
  /-- a list -/
  | lst (xs : List V)
  /-- a tuple (never changes) -/
  | tup (xs : List V)
  /-- a dict whose keys are ints and texts; one whose keys are tuples of ints and texts (the empty one is both) -/
  | dK (kvs : List (Key × V)) | dT (kvs : List (List Key × V))
  /-- a set of ints: its members, its size -/
  | set (S : Int → Bool) (n : Nat)
  /-- an instance of the class at C, its dict at dx, its attributes -/
  | ins (C dx : Addr) (fs : List (Str × V))
  /-- the dict of the instance at x -/
  | own (x : Addr)
  /-- the dict of an exception -/
  | xd (fs : List (Str × V))
  /-- a bound method, f of x -/
  | met (f x : Addr)
  /-- a range object lo, lo + 1, .. below hi -/
  | rng (lo hi : Int)
  /-- a thing that is known to the object (the script; a dict while a loop walks it): read, never written while it is so -/
  | frz (o : Obj) (u : HO)
  /-- a code object's table -/
  | tbl (ps : Array Value)
  /-- any other thing, by what is true of its one object (a def of one's own: SetO a S n := HO.ext fun h => ..) -/
  | ext (φ : Heap → Prop)

abbrev Hp := Addr → Option HO
def upd (H : Hp) (a : Addr) (o : HO) : Hp := fun b => if b = a then some o else H b
theorem upd_same {H : Hp} {a : Addr} {o : HO} : upd H a o a = some o := by unfold upd; rw [if_pos rfl]
theorem upd_ne {H : Hp} {a b : Addr} {o : HO} (h : b ≠ a) : upd H a o b = H b := by unfold upd; rw [if_neg h]
theorem ne_of_none {H : Hp} {a b : Addr} {o : HO} (h : H a = some o) (h' : H b = none) : a ≠ b := by
  intro e; subst e; rw [h] at h'; cases h'

section
variable (P : Program) (w : World)
def ObjOk (H : Hp) (h : Heap) (a : Addr) : HO → Prop
  | .lst xs => xs.length ≤ sizeLine ∧ ∃ (its : List Value) (n : Nat), Vals xs its ∧ h.get? a = some { cls := .type "list", data := .seq its.toArray n }
  | .tup xs => xs.length ≤ sizeLine ∧ ∃ its : List Value, Vals xs its ∧ IsTup h a its.toArray
  | .dK kvs => kvs.length ≤ sizeLine ∧ (a == sysModules) = false ∧ ∃ vs, KV kvs vs ∧ h.DictOf (mixKind P w) a vs
  | .dT kvs => kvs.length ≤ sizeLine ∧ (a == sysModules) = false ∧ ∃ xs : List (List Key × Addr × Value),
      Paired (fun (p : List Key × V) (q : List Key × Addr × Value) => p.1 = q.1 ∧ H q.2.1 = some (.tup (p.1.map kV)) ∧ RelV p.2 q.2.2) kvs xs ∧
      ∃ o es ep, h.get? a = some o ∧ o.ExactDict ∧ o.data = .dict es ep ∧ es.toList = xs.map (entryOfKey (tupleKind (mixKind P w))) ∧ (xs.map (·.1)).Nodup
  | .set S n => h.SetOf (intKind P w) a S n
  | .ins C dx fs => H dx = some (.own a) ∧ fs.length ≤ 1000 ∧ dx ≠ a ∧ h.get? a = some (PySem.W.instObj C dx) ∧
      ∃ mA, h.Ns1 dx mA ∧ (∀ f, RelO (fs.lookup f) (mA f)) ∧ PySem.Within mA (fs.map (·.1))
  | .own _ => ∃ o, h.get? a = some o
  | .xd fs => ∃ mA, h.Ns1 a mA ∧ ∀ f, RelO (fs.lookup f) (mA f)
  | .rng lo hi => ∃ t u v, h.get? a = some { cls := .type "range", data := .fields #[.int lo t, .int hi u, .int 1 v] }
  | .frz o u => h.get? a = some o ∧ ObjOk H h a u
  | .tbl ps => h.get? a = some { cls := .none, data := .fields ps }
  | .met f x => h.get? a = some (PySem.W.methodObj (.ref f) (.ref x))
  | .ext φ => φ h ∧ (∃ o, h.get? a = some o) ∧ ∀ h1 h2 : Heap, φ h1 → (∀ o, h1.get? a = some o → h2.get? a = some o) → φ h2
/-- the abstract heap is held -/
def HOk (H : Hp) (h : Heap) : Prop := ∀ a o, H a = some o → ObjOk P w H h a o
end

section
variable {P : Program} {w : World} {H H' : Hp} {h h' : Heap} {a : Addr} {o : HO}
theorem ObjOk.lt (x : ObjOk P w H h a o) : a < h.objs.size := by
  cases o with
  | lst xs => obtain ⟨_, _, _, _, e⟩ := x; exact Heap.lt_size e
  | tup xs => obtain ⟨_, _, _, p⟩ := x; exact p.lt
  | dK kvs => obtain ⟨_, _, _, _, o, _, _, e, _⟩ := x; exact Heap.lt_size e
  | dT kvs => obtain ⟨_, _, _, _, o, _, _, e, _⟩ := x; exact Heap.lt_size e
  | set S n => obtain ⟨o, _, _, _, e, _⟩ := x; exact Heap.lt_size e
  | ins C dx fs => obtain ⟨_, _, _, e, _⟩ := x; exact Heap.lt_size e
  | own y => obtain ⟨_, e⟩ := x; exact Heap.lt_size e
  | xd fs => obtain ⟨_, ⟨_, _, _, e, _⟩, _⟩ := x; exact Heap.lt_size e
  | rng lo hi => obtain ⟨_, _, _, e⟩ := x; exact Heap.lt_size e
  | frz ob u => obtain ⟨e, _⟩ := x; exact Heap.lt_size e
  | tbl ps => exact Heap.lt_size (show h.get? a = some _ from x)
  | met f y => exact Heap.lt_size (show h.get? a = some _ from x)
  | ext φ => obtain ⟨_, ⟨_, e⟩, _⟩ := x; exact Heap.lt_size e
theorem Paired.mapP {α β : Type} {F G : α → β → Prop} : ∀ {l₁ : List α} {l₂ : List β}, Paired F l₁ l₂ → (∀ a b, F a b → G a b) → Paired G l₁ l₂
  | _, _, .nil, _ => .nil
  | _, _, .cons r t, f => .cons (f _ _ r) (Paired.mapP t f)
/-- what an object's description leans on: its own object, its own dict, the tuples -/
theorem ObjOk.stay (x : ObjOk P w H h a o) (k : ∀ b u, (b = a ∨ H b = some (.own a)) → h.get? b = some u → h'.get? b = some u)
    (ho : ∀ b, H b = some (.own a) → H' b = some (.own a)) (ht : ∀ b xs, H b = some (.tup xs) → H' b = some (.tup xs)) : ObjOk P w H' h' a o := by
  induction o with
  | lst xs => obtain ⟨z, its, n, r, e⟩ := x; exact ⟨z, its, n, r, k _ _ (.inl rfl) e⟩
  | tup xs => obtain ⟨z, its, r, ob, e, c⟩ := x; exact ⟨z, its, r, ob, k _ _ (.inl rfl) e, c⟩
  | dK kvs => obtain ⟨z, y, vs, r, ob, es, ep, e, c⟩ := x; exact ⟨z, y, vs, r, ob, es, ep, k _ _ (.inl rfl) e, c⟩
  | dT kvs =>
    obtain ⟨z, y, xs, r, ob, es, ep, e, c⟩ := x
    exact ⟨z, y, xs, Paired.mapP r fun p q z => ⟨z.1, ht _ _ z.2.1, z.2.2⟩, ob, es, ep, k _ _ (.inl rfl) e, c⟩
  | set S n => obtain ⟨ob, es, ep, t, e, c⟩ := x; exact ⟨ob, es, ep, t, k _ _ (.inl rfl) e, c⟩
  | ins C dx fs =>
    obtain ⟨d, z, ne, e, mA, ⟨od, es, ep, e2, c⟩, r⟩ := x
    exact ⟨ho _ d, z, ne, k _ _ (.inl rfl) e, mA, ⟨od, es, ep, k _ _ (.inr d) e2, c⟩, r⟩
  | own y => obtain ⟨ob, e⟩ := x; exact ⟨ob, k _ _ (.inl rfl) e⟩
  | xd fs => obtain ⟨mA, ⟨od, es, ep, e, c⟩, r⟩ := x; exact ⟨mA, ⟨od, es, ep, k _ _ (.inl rfl) e, c⟩, r⟩
  | rng lo hi => obtain ⟨t, u, v, e⟩ := x; exact ⟨t, u, v, k _ _ (.inl rfl) e⟩
  | frz ob u ih => obtain ⟨e, q⟩ := x; exact ⟨k _ _ (.inl rfl) e, ih q⟩
  | tbl ps =>
    have e : h.get? a = some { cls := .none, data := .fields ps } := x
    show h'.get? a = some { cls := .none, data := .fields ps }
    exact k a _ (.inl rfl) e
  | met f y =>
    have e : h.get? a = some (PySem.W.methodObj (.ref f) (.ref y)) := x
    show h'.get? a = some (PySem.W.methodObj (.ref f) (.ref y))
    exact k a _ (.inl rfl) e
  | ext φ => obtain ⟨p, ⟨o, e⟩, st⟩ := x; exact ⟨st _ _ p fun o q => k _ _ (.inl rfl) q, ⟨o, k _ _ (.inl rfl) e⟩, st⟩
theorem HOk.lt (x : HOk P w H h) (e : H a = some o) : a < h.objs.size := (x a o e).lt
theorem HOk.fresh (x : HOk P w H h) (e : h.objs.size ≤ a) : H a = none := by
  cases q : H a with
  | none => rfl
  | some u => exact absurd (Nat.lt_of_lt_of_le (x.lt q) e) (Nat.lt_irrefl _)
/-- every object of the heap is kept -/
theorem HOk.kept (x : HOk P w H h) (k : ∀ b u, h.get? b = some u → h'.get? b = some u) : HOk P w H h' := fun a o e =>
  (x a o e).stay (fun b u _ q => k b u q) (fun _ q => q) fun _ _ q => q
/-- a new object is laid and tracked -/
theorem HOk.laid (x : HOk P w H h) (k : ∀ b u, h.get? b = some u → h'.get? b = some u) (hp : h.objs.size ≤ a) (new : ObjOk P w (upd H a o) h' a o) : HOk P w (upd H a o) h' := fun b u e => by
  have hn := x.fresh hp
  by_cases hb : b = a
  · subst hb; rw [upd_same] at e; cases e; exact new
  · rw [upd_ne hb] at e
    exact (x b u e).stay (fun c v _ q => k c v q) (fun c q => by rw [upd_ne (ne_of_none q hn)]; exact q) fun c xs q => by rw [upd_ne (ne_of_none q hn)]; exact q
end

/-- what may be read as u: it is u, or a known u -/
def Rd (H : Hp) (a : Addr) (u : HO) : Prop := H a = some u ∨ ∃ o, H a = some (.frz o u)
theorem Rd.ok {P : Program} {w : World} {H : Hp} {h : Heap} {a : Addr} {u : HO} (r : Rd H a u) (x : HOk P w H h) : ObjOk P w H h a u := by
  rcases r with r | ⟨o, r⟩
  · exact x a u r
  · obtain ⟨_, q⟩ := x a _ r
    exact q
/-- what may be written -/
def Mut : Option HO → Prop
  | some (.lst _) => True
  | some (.dK _) => True
  | some (.dT _) => True
  | some (.set _ _) => True
  | some (.ins _ _ _) => True
  | some (.ext _) => True
  | _ => False
section
variable {P : Program} {w : World} {H : Hp} {h h' : Heap} {x e : Addr} {o' : HO}
/-- the object at e is changed: x itself, or the dict of the instance x -/
theorem HOk.write (ok : HOk P w H h) (mu : Mut (H x)) (he : e = x ∨ H e = some (.own x)) (k : ∀ b u, b ≠ e → h.get? b = some u → h'.get? b = some u) (heo : ∃ u, h'.get? e = some u)
    (new : ObjOk P w (upd H x o') h' x o') : HOk P w (upd H x o') h' := fun b u q => by
  have nown : ∀ c y, H c = some (.own y) → c ≠ x := fun c y r z => by subst z; rw [r] at mu; exact mu
  have ntup : ∀ c xs, H c = some (.tup xs) → c ≠ x := fun c xs r z => by subst z; rw [r] at mu; exact mu
  by_cases hb : b = x
  · subst hb; rw [upd_same] at q; cases q; exact new
  · rw [upd_ne hb] at q
    by_cases hbe : b = e
    · have q' : H b = some (.own x) := by
        rcases he with z | z
        · exact absurd (hbe.trans z) hb
        · rw [hbe]; exact z
      rw [q] at q'; cases q'
      obtain ⟨v, hv⟩ := heo
      exact ⟨v, by rw [hbe]; exact hv⟩
    · refine (ok b u q).stay (fun c v hc r => k c v ?_ r) (fun c r => by rw [upd_ne (nown c b r)]; exact r) fun c xs r => by rw [upd_ne (ntup c xs r)]; exact r
      rcases hc with rfl | hc
      · exact hbe
      · rintro rfl
        rcases he with z | z
        · exact nown c b hc z
        · rw [hc] at z; cases z; exact hb rfl
end

/-! ### kept unless tracked; of the frames at fs (the callers') the slots may change (an exception that passes writes there); of the records at ex (iterators) nothing is said -/
structure Un (fs ex : List Addr) (H H' : Hp) (h h' : Heap) : Prop where
  keep : ∀ b o, h.get? b = some o → H b = none → b ∉ fs → b ∉ ex → h'.get? b = some o
  slot : ∀ b o, h.get? b = some o → H b = none → b ∈ fs → b ∉ ex → ∃ sl, h'.get? b = some { o with slots := sl }
  free : ∀ b o, h.get? b = some o → H b = none → b ∉ ex → H' b = none
  there : ∀ b o, h.get? b = some o → b ∉ ex → ∃ o', h'.get? b = some o'
  tups : ∀ b xs, H b = some (.tup xs) → H' b = some (.tup xs)
  frzs : ∀ b o u, H b = some (.frz o u) → H' b = some (.frz o u)
  tbls : ∀ b ps, H b = some (.tbl ps) → ∃ more, H' b = some (.tbl (ps ++ more))
section
variable {fs fs' ex ex' : List Addr} {H H1 H2 : Hp} {h h1 h2 h' : Heap} {a x e : Addr} {o : HO}
theorem Un.any (u : Un fs ex H H1 h h1) {b : Addr} {ob : Obj} (q : h.get? b = some ob) (n : H b = none) (hx : b ∉ ex) : ∃ sl, h1.get? b = some { ob with slots := sl } := by
  by_cases hb : b ∈ fs
  · exact u.slot b ob q n hb hx
  · exact ⟨ob.slots, u.keep b ob q n hb hx⟩
theorem Un.kept (k : ∀ b u, h.get? b = some u → h'.get? b = some u) : Un fs ex H H h h' :=
  ⟨fun b ob q _ _ _ => k b ob q, fun b ob q _ _ _ => ⟨ob.slots, k b ob q⟩, fun _ _ _ n _ => n, fun b ob q _ => ⟨ob, k b ob q⟩, fun _ _ q => q, fun _ _ _ q => q, fun _ ps q => ⟨#[], by rw [q]; simp⟩⟩
theorem Un.refl : Un fs ex H H h h := Un.kept fun _ _ q => q
theorem Un.laid (k : ∀ b u, h.get? b = some u → h'.get? b = some u) (hp : h.objs.size ≤ a) (hn : H a = none) : Un fs ex H (upd H a o) h h' where
  keep := fun b u q _ _ _ => k b u q
  slot := fun b u q _ _ _ => ⟨u.slots, k b u q⟩
  free := fun b u q n _ => by rw [upd_ne (Nat.ne_of_lt (Nat.lt_of_lt_of_le (Heap.lt_size q) hp))]; exact n
  there := fun b u q _ => ⟨u, k b u q⟩
  tups := fun b xs q => by rw [upd_ne (ne_of_none q hn)]; exact q
  frzs := fun b u xs q => by rw [upd_ne (ne_of_none q hn)]; exact q
  tbls := fun b ps q => ⟨#[], by rw [upd_ne (ne_of_none q hn), q]; simp⟩
theorem Un.write (mu : Mut (H x)) (he : e = x ∨ H e = some (.own x)) (k : ∀ b u, b ≠ e → h.get? b = some u → h'.get? b = some u) (heo : ∃ u, h'.get? e = some u) : Un fs ex H (upd H x o) h h' := by
  have hx : ∀ b, H b = none → b ≠ x := fun b n z => by subst z; rw [n] at mu; exact mu
  have hb : ∀ b, H b = none → b ≠ e := fun b n z => by
    subst z
    rcases he with r | r
    · exact hx b n r
    · rw [n] at r; cases r
  have hm : ∀ b u, H b = some u → ¬ Mut (some u) → b ≠ x := fun b u q nm z => by subst z; rw [q] at mu; exact nm mu
  refine ⟨fun b u q n _ _ => k b u (hb b n) q, fun b u q n _ _ => ⟨u.slots, k b u (hb b n) q⟩, fun b u q n _ => by rw [upd_ne (hx b n)]; exact n, fun b u q _ => ?_,
    fun b xs q => by rw [upd_ne (hm b _ q fun z => z)]; exact q, fun b u xs q => by rw [upd_ne (hm b _ q fun z => z)]; exact q, fun b ps q => ⟨#[], by rw [upd_ne (hm b _ q fun z => z), q]; simp⟩⟩
  by_cases hbe : b = e
  · subst hbe; exact heo
  · exact ⟨u, k b u hbe q⟩
end

/-! ### the heap without what is tracked -/
def trk (h : Heap) (H : Hp) : List Addr := (List.range h.objs.size).filter fun a => (H a).isSome
def hidT (h : Heap) (H : Hp) : Heap := PySem.W.hideAll h (trk h H)
theorem hidT_size (h : Heap) (H : Hp) : (hidT h H).objs.size = h.objs.size := PySem.W.hideAll_size _ _
theorem hidT_get {h : Heap} {H : Hp} {b : Addr} {o : Obj} (e : h.get? b = some o) (n : H b = none) : (hidT h H).get? b = some o :=
  PySem.W.hideAll_get _ e fun hm => by
    have q : (H b).isSome = true := (List.mem_filter.mp hm).2
    rw [n] at q; simp at q
theorem of_hidT {h : Heap} {H : Hp} {b : Addr} {o : Obj} (e : (hidT h H).get? b = some o) : h.get? b = some o ∧ H b = none := by
  have e' : h.get? b = some o := PySem.W.of_hideAll (trk h H) e
  refine ⟨e', ?_⟩
  cases q : H b with
  | none => rfl
  | some x =>
    have hm : b ∈ trk h H := List.mem_filter.mpr ⟨List.mem_range.mpr (Heap.lt_size e'), by simp [q]⟩
    have z : (hidT h H).get? b = none := PySem.W.hideAll_none (trk h H) hm
    rw [z] at e; cases e

/-! ### OpenK's ledger, filled with every new object but one -/
def allNews (g h : Heap) (L : Addr) : List (Addr × Obj) := (List.range h.objs.size).filterMap fun a => if a = L ∨ (g.get? a).isSome = true then none else (h.get? a).map fun o => (a, o)
def rest (g h : Heap) (L d : Addr) : List (Addr × Obj) := (allNews g h L).filter fun p => decide (p.1 ≠ d)
end L2

namespace L2
open PySem PySem.Spec PyProof.Rows

/-- the module's facts, over the base: the heap at the law's entry without what is tracked there -/
structure Mod (K : PySem.W.Frag) (mg : Str → Option Value) (base : Heap) : Prop where
  kin : K.In base
  glob : base.Ns mainGlobals mg
  blt : ∃ mb, base.Ns builtinsNs mb ∧ ∀ x : Str, x ≠ "__name__" → mb x = bootBuiltins x
  nolimit : base.NoLimit

/-- the context: a def's body (or a comprehension's block) running. base: fixed through the whole law; s₀, H₀: the entry; outer: the frames whose slots others may change (a def's callers); stack: all frames that run;
   ex: iterators that were made ahead of the entry and are walked here (a comprehension's); fn: the names whose cells were made at the entry (a def: all; a comprehension's block: its own); calm: not within an except suite; pn: pins that every state bears; xe: what is wanted of an exception that leaves the code -/
structure Cx where
  prog : Program
  w : World
  K : PySem.W.Frag
  mg : Str → Option Value
  base : Heap
  A : Around
  N : List Str
  s₀ : Shared
  H₀ : Hp
  env : Env
  outer : List Env
  stack : List Env
  ex : List Addr
  fn : Str → Bool
  calm : Bool
  pn : List (Addr × Obj)
  xe : Value → Shared → Prop
/-- the callers' frames -/
def frs (l : List Env) : List Addr := l.filterMap (·.frame)
abbrev Cx.fs (X : Cx) : List Addr := frs X.outer

def Vis (sc : Scope) (x : Str) : Prop := sc.names.lookup x = some .local ∨ sc.names.lookup x = some .cell ∨ sc.names.lookup x = some .free
def Loc (sc : Scope) (x : Str) : Prop := sc.names.lookup x = some .local ∨ sc.names.lookup x = some .cell
def Look (env : Env) (h : Heap) (m : Str → Option Value) (x : Str) (u : Value) : Prop :=
  (env.kindOf x = some .local ∧ m x = some u) ∨ ((env.kindOf x = some .cell ∨ env.kindOf x = some .free) ∧ ∃ c, env.cells.lookup x = some c ∧ h.IsCell c (some u))

structure Cx.Ok (X : Cx) : Prop where
  mod : Mod X.K X.mg X.base
  kind : X.env.scope.kind = .function
  glob : X.env.globals = mainGlobals
  blt : X.env.builtins = builtinsNs
  above : X.s₀.heap.objs.size ≤ X.env.locals
  inj : ∀ x y c, X.env.cells.lookup x = some c → X.env.cells.lookup y = some c → x = y
  has : ∀ x, (X.env.kindOf x = some .cell ∨ X.env.kindOf x = some .free) → ∃ c, X.env.cells.lookup x = some c
  cab : ∀ x c, X.fn x = true → X.env.cells.lookup x = some c → X.s₀.heap.objs.size ≤ c
  hd : X.calm = true → X.A.handled = none
  frames : X.A.frames = some X.stack
  stk : X.stack = X.outer ∨ (X.stack = X.env :: X.outer ∧ X.env.frame = some X.env.locals)
  exf : ∀ b ∈ X.ex, b ≠ X.env.locals ∧ ∀ x c, X.env.cells.lookup x = some c → c ≠ b
  bs : ∀ b o, X.base.get? b = some o → X.s₀.heap.get? b = some o ∧ X.H₀ b = none
  bsz : X.base.objs.size ≤ X.s₀.heap.objs.size
  noex : ∀ b o, X.base.get? b = some o → b ∉ X.ex
  exfs : ∀ b ∈ X.ex, b ∉ X.fs
  funs : X.s₀.heap.FunFrames X.base X.outer
  frf : ∀ b ∈ X.fs, X.H₀ b = none

structure Inv (X : Cx) (pins : List (Addr × Obj)) (σ : List (Option V)) (H : Hp) (s : Shared) : Prop where
  ok : X.Ok
  os : s.os = X.s₀.os
  bare : AllBare s.gens
  base : Un X.fs X.ex X.H₀ H X.s₀.heap s.heap
  loc : ∃ m, s.heap.Ns X.env.locals m ∧ ∀ (i : Nat) (x : Str) (v : V), X.N[i]? = some x → σ[i]? = some (some v) → Vis X.env.scope x → ∃ u, RelV v u ∧ Look X.env s.heap m x u
  cell : ∀ x c, X.env.cells.lookup x = some c → ∃ v, s.heap.IsCell c v
  free : H X.env.locals = none
  freeC : ∀ x c, X.env.cells.lookup x = some c → H c = none
  pin : ∀ p ∈ X.pn ++ pins, s.heap.get? p.1 = some p.2 ∧ H p.1 = none ∧ p.1 ≠ X.env.locals ∧ p.1 ∉ X.fs ∧ ∀ v, p.2.data ≠ .cell v
  hok : HOk X.prog X.w H s.heap
  len : σ.length = X.N.length

section
variable {X : Cx} {pins : List (Addr × Obj)} {σ : List (Option V)} {H H' : Hp} {s : Shared} {h' : Heap}

theorem Cx.Ok.nofr (ok : X.Ok) {b : Addr} {o : Obj} (e : X.base.get? b = some o) : b ∉ X.fs := fun hb => by
  have := (ok.funs.mem hb).1
  rw [e] at this; cases this
theorem Inv.bs (I : Inv X pins σ H s) : ∀ b o, X.base.get? b = some o → s.heap.get? b = some o ∧ H b = none := fun b o e =>
  ⟨I.base.keep b o (I.ok.bs b o e).1 (I.ok.bs b o e).2 (I.ok.nofr e) (I.ok.noex b o e), I.base.free b o (I.ok.bs b o e).1 (I.ok.bs b o e).2 (I.ok.noex b o e)⟩
theorem Inv.bk (I : Inv X pins σ H s) : ∀ b o, X.base.get? b = some o → s.heap.get? b = some o := fun b o e => (I.bs b o e).1
theorem Inv.mod (I : Inv X pins σ H s) : Mod X.K X.mg X.base := I.ok.mod
theorem Inv.kIn (I : Inv X pins σ H s) : X.K.In s.heap := I.ok.mod.kin.keeps I.bk
theorem Inv.lt (I : Inv X pins σ H s) : X.env.locals < s.heap.objs.size := let ⟨_, hn, _⟩ := I.loc; hn.lt
theorem Inv.sz (I : Inv X pins σ H s) : X.s₀.heap.objs.size ≤ s.heap.objs.size := Nat.le_trans I.ok.above (Nat.le_of_lt I.lt)
theorem Inv.nofs (I : Inv X pins σ H s) {a : Addr} (h : s.heap.objs.size ≤ a) : a ∉ X.fs := fun hb => by
  obtain ⟨_, o, ho, _⟩ := I.ok.funs.mem hb
  exact absurd (Nat.lt_of_lt_of_le (Heap.lt_size ho) (Nat.le_trans I.sz h)) (Nat.lt_irrefl _)
theorem Inv.cne (I : Inv X pins σ H s) : ∀ x c, X.env.cells.lookup x = some c → c ≠ X.env.locals := fun x c e z => by
  obtain ⟨v, o, ho, hd⟩ := I.cell x c e
  obtain ⟨m, ⟨o', es, ep, ho', hd', _⟩, _⟩ := I.loc
  rw [z, ho'] at ho; cases ho; rw [hd'] at hd; cases hd
theorem Inv.funs (I : Inv X pins σ H s) : s.heap.FunFrames X.base X.outer := by
  have all : ∀ (l : List Env), (∀ b ∈ frs l, b ∈ X.fs) → X.s₀.heap.FunFrames X.base l → s.heap.FunFrames X.base l := by
    intro l
    induction l with
    | nil => intro _ _; trivial
    | cons env r ih =>
      intro hs hl
      obtain ⟨hk, ⟨L, o, hf, hn, ho, hd⟩, hr⟩ := hl
      have hL : L ∈ X.fs := hs L (by unfold frs; rw [List.filterMap_cons, hf]; exact List.mem_cons_self)
      obtain ⟨sl, e⟩ := I.base.slot L o ho (I.ok.frf L hL) hL fun z => I.ok.exfs L z hL
      exact ⟨hk, ⟨L, _, hf, hn, e, hd⟩, ih (fun b hb => hs b (by unfold frs; rw [List.filterMap_cons, hf]; exact List.mem_cons_of_mem _ hb)) hr⟩
  exact all X.outer (fun _ hb => hb) I.ok.funs

/-- the frames that run, for a call -/
theorem Inv.stack (I : Inv X pins σ H s) : s.heap.FunFrames X.base X.stack := by
  rcases I.ok.stk with e | ⟨e, hf⟩
  · rw [e]; exact I.funs
  · rw [e]
    obtain ⟨m, hn, _⟩ := I.loc
    refine .cons (by rw [I.ok.kind]; decide) hf hn ?_ I.funs
    exact Heap.get?_none_of_le (Nat.le_trans I.ok.bsz I.ok.above)
theorem Inv.stkSub (I : Inv X pins σ H s) : ∀ b ∈ frs X.stack, b ∈ X.env.locals :: X.fs := fun b hb => by
  rcases I.ok.stk with e | ⟨e, hf⟩
  · rw [e] at hb; exact List.mem_cons_of_mem _ hb
  · rw [e] at hb
    unfold frs at hb
    rw [List.filterMap_cons, hf] at hb
    exact hb
theorem Inv.stkFree (I : Inv X pins σ H s) : ∀ b ∈ frs X.stack, H b = none := fun b hb => by
  rcases List.mem_cons.mp (I.stkSub b hb) with e | hb
  · rw [e]; exact I.free
  · obtain ⟨_, o, ho, _⟩ := I.ok.funs.mem hb
    exact I.base.free b o ho (I.ok.frf b hb) fun z => I.ok.exfs b z hb

/-- THE STEP: the untracked objects but the frame and the records at ch are kept (the callers' frames up to slots), the frame's map is kept, the new abstract heap is held -/
theorem Inv.step {g' : Array GenState} {t' : Nat} {d' : Drawn} {ch : List Addr} (I : Inv X pins σ H s)
    (hch : ∀ b ∈ ch, (b ∈ X.ex ∨ X.s₀.heap.objs.size ≤ b) ∧ b ≠ X.env.locals ∧ (∀ x c, X.env.cells.lookup x = some c → c ≠ b) ∧ ∀ p ∈ X.pn ++ pins, p.1 ≠ b)
    (keep : ∀ b o, b ≠ X.env.locals → b ∉ X.fs → b ∉ ch → s.heap.get? b = some o → H b = none → h'.get? b = some o)
    (slot : ∀ b o, b ≠ X.env.locals → b ∈ X.fs → b ∉ ch → s.heap.get? b = some o → H b = none → ∃ sl, h'.get? b = some { o with slots := sl }) (free : ∀ b o, b ∉ ch → s.heap.get? b = some o → H b = none → H' b = none)
    (there : ∀ b o, b ∉ ch → s.heap.get? b = some o → ∃ o', h'.get? b = some o')
    (tups : ∀ b xs, H b = some (.tup xs) → H' b = some (.tup xs)) (frzs : ∀ b o u, H b = some (.frz o u) → H' b = some (.frz o u)) (tbls : ∀ b ps, H b = some (.tbl ps) → ∃ more, H' b = some (.tbl (ps ++ more)))
    (ns : ∀ m, s.heap.Ns X.env.locals m → h'.Ns X.env.locals m) (hok : HOk X.prog X.w H' h') (hg : AllBare g') :
    Inv X pins σ H' { s with heap := h', gens := g', drawn := d', toks := t' } := by
  have neL : ∀ b o, X.s₀.heap.get? b = some o → b ≠ X.env.locals := fun b o e => Nat.ne_of_lt (Nat.lt_of_lt_of_le (Heap.lt_size e) I.ok.above)
  have neC : ∀ b o, X.s₀.heap.get? b = some o → b ∉ X.ex → b ∉ ch := fun b o e hx hb => by
    rcases (hch b hb).1 with z | z
    · exact hx z
    · exact absurd (Nat.lt_of_lt_of_le (Heap.lt_size e) z) (Nat.lt_irrefl _)
  have cellK : ∀ x c, X.env.cells.lookup x = some c → ∀ v, s.heap.IsCell c v → h'.IsCell c v := fun x c e v ⟨o, ho, hd⟩ => by
    have nch : c ∉ ch := fun z => (hch c z).2.2.1 x c e rfl
    by_cases hc : c ∈ X.fs
    · obtain ⟨sl, q⟩ := slot c o (I.cne x c e) hc nch ho (I.freeC x c e)
      exact ⟨_, q, hd⟩
    · exact ⟨o, keep c o (I.cne x c e) hc nch ho (I.freeC x c e), hd⟩
  refine ⟨I.ok, I.os, hg, ⟨fun b o e n hb hx => ?_, fun b o e n hb hx => ?_, fun b o e n hx => ?_, fun b o e hx => ?_, fun b xs e => tups b xs (I.base.tups b xs e), fun b o xs e => frzs b o xs (I.base.frzs b o xs e), fun b ps e => ?_⟩, ?_, fun x c e => ?_, ?_, fun x c e => ?_, fun p hp => ?_, hok, I.len⟩
  · exact keep b o (neL b o e) hb (neC b o e hx) (I.base.keep b o e n hb hx) (I.base.free b o e n hx)
  · obtain ⟨sl, e1⟩ := I.base.slot b o e n hb hx
    obtain ⟨sl', e2⟩ := slot b _ (neL b o e) hb (neC b o e hx) e1 (I.base.free b o e n hx)
    exact ⟨sl', e2⟩
  · obtain ⟨o', e1⟩ := I.base.there b o e hx
    exact free b o' (neC b o e hx) e1 (I.base.free b o e n hx)
  · obtain ⟨o', e1⟩ := I.base.there b o e hx
    exact there b o' (neC b o e hx) e1
  · obtain ⟨m1, e1⟩ := I.base.tbls b ps e
    obtain ⟨m2, e2⟩ := tbls b _ e1
    exact ⟨m1 ++ m2, by rw [e2, Array.append_assoc]⟩
  · obtain ⟨m, hn, hl⟩ := I.loc
    refine ⟨m, ns m hn, fun i x v e1 e2 e3 => ?_⟩
    obtain ⟨u, r, l⟩ := hl i x v e1 e2 e3
    refine ⟨u, r, ?_⟩
    rcases l with l | ⟨k, c, e, z⟩
    · exact .inl l
    · exact .inr ⟨k, c, e, cellK x c e _ z⟩
  · obtain ⟨v, z⟩ := I.cell x c e
    exact ⟨v, cellK x c e v z⟩
  · obtain ⟨m, ⟨o, _, _, ho, _⟩, _⟩ := I.loc
    exact free _ o (fun z => (hch _ z).2.1 rfl) ho I.free
  · obtain ⟨v, o, ho, hd⟩ := I.cell x c e
    exact free c o (fun z => (hch c z).2.2.1 x c e rfl) ho (I.freeC x c e)
  · obtain ⟨e, n, ne, nf, d⟩ := I.pin p hp
    have nch : p.1 ∉ ch := fun z => (hch p.1 z).2.2.2 p hp rfl
    exact ⟨keep p.1 p.2 ne nf nch e n, free p.1 p.2 nch e n, ne, nf, d⟩
/-- .. where the frame's own object is kept too -/
theorem Inv.un {t' : Nat} (I : Inv X pins σ H s) (u : Un X.fs [] H H' s.heap h') (hok : HOk X.prog X.w H' h') : Inv X pins σ H' { s with heap := h', toks := t' } := by
  obtain ⟨m, ⟨o, es, ep, ho, r⟩, _⟩ := id I.loc
  obtain ⟨sl, hL⟩ := u.any ho I.free (by simp)
  exact I.step (g' := s.gens) (d' := s.drawn) (ch := []) (fun _ z => nomatch z) (fun b o _ hb _ e n => u.keep b o e n hb (by simp)) (fun b o _ hb _ e n => u.slot b o e n hb (by simp)) (fun b o _ e n => u.free b o e n (by simp)) (fun b o _ e => u.there b o e (by simp)) u.tups u.frzs u.tbls (fun m' hm => by
    obtain ⟨o', es', ep', ho', r'⟩ := hm
    rw [ho] at ho'; cases ho'
    exact ⟨_, es', ep', hL, r'⟩) hok I.bare
/-- behind a call (or a comprehension's block): the slots of this frame may have changed too, the records at ch may have turned -/
theorem Inv.call {g' : Array GenState} {t' : Nat} {d' : Drawn} {ch : List Addr} (I : Inv X pins σ H s) (u : Un (frs X.stack) ch H H' s.heap h') (hok : HOk X.prog X.w H' h') (hg : AllBare g')
    (hch : ∀ b ∈ ch, (b ∈ X.ex ∨ X.s₀.heap.objs.size ≤ b) ∧ b ≠ X.env.locals ∧ (∀ x c, X.env.cells.lookup x = some c → c ≠ b) ∧ ∀ p ∈ X.pn ++ pins, p.1 ≠ b) :
    Inv X pins σ H' { s with heap := h', gens := g', drawn := d', toks := t' } := by
  obtain ⟨m, ⟨o, es, ep, ho, r⟩, _⟩ := id I.loc
  obtain ⟨sl, hL⟩ := u.any ho I.free fun z => (hch _ z).2.1 rfl
  exact I.step (ch := ch) hch (fun b o hL hb hc e n => u.keep b o e n (fun z => (List.mem_cons.mp (I.stkSub b z)).elim hL hb) hc) (fun b o _ _ hc e n => u.any e n hc) (fun b o hc e n => u.free b o e n hc) (fun b o hc e => u.there b o e hc) u.tups u.frzs u.tbls (fun m' hm => by
    obtain ⟨o', es', ep', ho', r'⟩ := hm
    rw [ho] at ho'; cases ho'
    exact ⟨_, es', ep', hL, r'⟩) hok hg
/-- an untracked record of ours (an iterator) has turned -/
theorem Inv.turned {t' : Nat} {it : Addr} (I : Inv X pins σ H s) (k : ∀ b o, b ≠ it → s.heap.get? b = some o → h'.get? b = some o) (hn : H it = none) (hL : it ≠ X.env.locals)
    (h1 : it ∈ X.ex ∨ X.s₀.heap.objs.size ≤ it) (h2 : ∀ x c, X.env.cells.lookup x = some c → c ≠ it) (h3 : ∀ p ∈ X.pn ++ pins, p.1 ≠ it) : Inv X pins σ H { s with heap := h', toks := t' } := by
  have nit : ∀ b u, H b = some u → b ≠ it := fun b u e z => by rw [z, hn] at e; cases e
  refine I.step (g' := s.gens) (d' := s.drawn) (ch := [it]) (fun b hb => ?_) (fun b o _ _ hc e _ => k b o (fun z => hc (by simp [z])) e) (fun b o _ _ hc e _ => ⟨o.slots, k b o (fun z => hc (by simp [z])) e⟩) (fun _ _ _ _ n => n)
    (fun b o hc e => ⟨o, k b o (fun z => hc (by simp [z])) e⟩) (fun _ _ e => e) (fun _ _ _ e => e) (fun b ps e => ⟨#[], by rw [e]; simp⟩) (fun m hm => ?_) (fun b u e => ?_) I.bare
  · have e : b = it := by simpa using hb
    subst e
    exact ⟨h1, hL, h2, h3⟩
  · obtain ⟨o, es, ep, ho, r⟩ := hm
    exact ⟨o, es, ep, k _ o (Ne.symm hL) ho, r⟩
  · refine (I.hok b u e).stay (fun c v hc q => k c v ?_ q) (fun _ q => q) fun _ _ q => q
    rcases hc with z | z
    · rw [z]; exact nit b u e
    · exact nit c _ z
theorem Inv.tok (I : Inv X pins σ H s) (t : Nat) : Inv X pins σ H { s with toks := t } := I.un (h' := s.heap) (t' := t) Un.refl I.hok
/-- all objects kept -/
theorem Inv.kept {t' : Nat} (I : Inv X pins σ H s) (k : ∀ b u, s.heap.get? b = some u → h'.get? b = some u) : Inv X pins σ H { s with heap := h', toks := t' } := I.un (Un.kept k) (I.hok.kept k)
/-- a new object laid and tracked -/
theorem Inv.laid {a : Addr} {o : HO} {t' : Nat} (I : Inv X pins σ H s) (k : ∀ b u, s.heap.get? b = some u → h'.get? b = some u) (hp : s.heap.objs.size ≤ a) (new : ObjOk X.prog X.w (upd H a o) h' a o) :
    Inv X pins σ (upd H a o) { s with heap := h', toks := t' } := I.un (Un.laid k hp (I.hok.fresh hp)) (I.hok.laid k hp new)
/-- an object written -/
theorem Inv.write {x e : Addr} {o : HO} {t' : Nat} (I : Inv X pins σ H s) (mu : Mut (H x)) (he : e = x ∨ H e = some (.own x)) (k : ∀ b u, b ≠ e → s.heap.get? b = some u → h'.get? b = some u) (heo : ∃ u, h'.get? e = some u)
    (new : ObjOk X.prog X.w (upd H x o) h' x o) : Inv X pins σ (upd H x o) { s with heap := h', toks := t' } := I.un (Un.write mu he k heo) (I.hok.write mu he k heo new)
/-- forgetting slots, pins -/
theorem Inv.weak {σ' : List (Option V)} (I : Inv X pins σ H s) (hl : σ'.length = σ.length) (w : ∀ (i : Nat) v, σ'[i]? = some (some v) → σ[i]? = some (some v)) : Inv X pins σ' H s :=
  ⟨I.ok, I.os, I.bare, I.base, let ⟨m, hn, hl'⟩ := I.loc; ⟨m, hn, fun i x v e1 e2 e3 => hl' i x v e1 (w i v e2) e3⟩, I.cell, I.free, I.freeC, I.pin, I.hok, hl.trans I.len⟩
theorem Inv.pins_of {pins' : List (Addr × Obj)} (I : Inv X pins σ H s) (h : ∀ p ∈ pins', s.heap.get? p.1 = some p.2 ∧ H p.1 = none ∧ p.1 ≠ X.env.locals ∧ p.1 ∉ X.fs ∧ ∀ v, p.2.data ≠ .cell v) : Inv X pins' σ H s :=
  ⟨I.ok, I.os, I.bare, I.base, I.loc, I.cell, I.free, I.freeC, fun p hp => (List.mem_append.mp hp).elim (fun z => I.pin p (List.mem_append_left _ z)) (h p), I.hok, I.len⟩

theorem nodup_ix {N : List Str} (hN : N.Nodup) {i j : Nat} {x : Str} (a : N[i]? = some x) (b : N[j]? = some x) : i = j := by
  obtain ⟨h1, e1⟩ := List.getElem?_eq_some_iff.mp a
  obtain ⟨h2, e2⟩ := List.getElem?_eq_some_iff.mp b
  exact (List.getElem_inj hN).mp (e1.trans e2.symm)

/-- a name is stored; what changed -/
theorem store_ok2 {M : Model} {A : Around} {E : Value → Shared → Prop} {i : Nat} {x : Str} {v : V} {u : Value} {Q : Unit → Shared → Prop} (I : Inv X pins σ H s) (hN : X.N.Nodup) (hi : X.N[i]? = some x) (hx : Loc X.env.scope x) (r : RelV v u)
    (h : ∀ s', Inv X pins (σ.set i (some v)) H s' → (∃ a, Heap.SameBut a s.heap s'.heap ∧ (a = X.env.locals ∨ X.env.cells.lookup x = some a)) → Q () s') (hf : X.fn x = true ∨ X.env.scope.names.lookup x = some .local := by first | exact .inl rfl | exact .inr rfl | assumption) : wpAny M A (storeName X.env x u) Q E s := by
  obtain ⟨m, hn, hl⟩ := id I.loc
  have hcls : (X.env.scope.kind == .class || (X.env.scope.kind == .module && X.env.locals != X.env.globals)) = false := by rw [I.ok.kind]; rfl
  have hiσ : i < σ.length := by rw [I.len]; exact (List.getElem?_eq_some_iff.mp hi).1
  have cne := I.cne
  have tracked : ∀ {a : Addr} {h' : Heap}, (∃ o, s.heap.get? a = some o ∧ H a = none) → Heap.SameBut a s.heap h' → HOk X.prog X.w H h' := fun {a h'} ha hs b ob e => by
    obtain ⟨_, _, hfree⟩ := ha
    refine (I.hok b ob e).stay (fun c w' hc q => (hs.2 c ?_).trans q) (fun _ q => q) fun _ _ q => q
    rintro rfl
    rcases hc with rfl | hc
    · rw [hfree] at e; cases e
    · rw [hfree] at hc; cases hc
  rcases hx with hk | hk
  · refine wpAny_storeName_local hk hn (fun h' hn' hs => ?_) hcls
    obtain ⟨oL, _, _, hoL, _⟩ := id hn
    refine h _ ⟨I.ok, I.os, I.bare, ⟨fun b o e n hb hx => ?_, fun b o e n hb hx => ?_, I.base.free, fun b o e hx => ?_, I.base.tups, I.base.frzs, I.base.tbls⟩, ⟨_, hn', fun j y v' e1 e2 e3 => ?_⟩, fun y c e => ?_, I.free, I.freeC, fun p hp => ?_, tracked ⟨oL, hoL, I.free⟩ hs, by simpa using I.len⟩ ⟨_, hs, .inl rfl⟩
    · exact (hs.2 b (Nat.ne_of_lt (Nat.lt_of_lt_of_le (Heap.lt_size e) I.ok.above))).trans (I.base.keep b o e n hb hx)
    · obtain ⟨sl, e1⟩ := I.base.slot b o e n hb hx
      exact ⟨sl, (hs.2 b (Nat.ne_of_lt (Nat.lt_of_lt_of_le (Heap.lt_size e) I.ok.above))).trans e1⟩
    · obtain ⟨o', e1⟩ := I.base.there b o e hx
      exact ⟨o', (hs.2 b (Nat.ne_of_lt (Nat.lt_of_lt_of_le (Heap.lt_size e) I.ok.above))).trans e1⟩
    · by_cases hj : j = i
      · subst hj
        rw [hi] at e1; cases e1
        rw [List.getElem?_set_self hiσ] at e2
        cases e2
        exact ⟨u, r, .inl ⟨hk, by simp⟩⟩
      · rw [List.getElem?_set_ne (Ne.symm hj)] at e2
        obtain ⟨u', r', q⟩ := hl j y v' e1 e2 e3
        refine ⟨u', r', ?_⟩
        rcases q with ⟨k, e⟩ | ⟨k, c, e, z⟩
        · refine .inl ⟨k, ?_⟩
          have : y ≠ x := fun e => hj (nodup_ix hN e1 (e ▸ hi))
          simp [this, e]
        · exact .inr ⟨k, c, e, z.sameBut hs (cne y c e)⟩
    · obtain ⟨w', z⟩ := I.cell y c e
      exact ⟨w', z.sameBut hs (cne y c e)⟩
    · obtain ⟨e, n, ne, nf, d⟩ := I.pin p hp
      exact ⟨(hs.2 p.1 ne).trans e, n, ne, nf, d⟩
  · have hfn : X.fn x = true := by
      rcases hf with z | z
      · exact z
      · rw [z] at hk; cases hk
    obtain ⟨c, hc⟩ := I.ok.has x (.inl hk)
    obtain ⟨w', z⟩ := I.cell x c hc
    refine wpAny_storeName_cell I.ok.kind hk hc z (fun h' hc' hs => ?_)
    obtain ⟨oc, hoc, hocd⟩ := id z
    refine h { s with heap := h' } ⟨I.ok, I.os, I.bare, ⟨fun b o e n hb hx => ?_, fun b o e n hb hx => ?_, I.base.free, fun b o e hx => ?_, I.base.tups, I.base.frzs, I.base.tbls⟩, ⟨m, hn.sameBut hs (Ne.symm (cne x c hc)), fun j y v' e1 e2 e3 => ?_⟩, fun y c' e => ?_, I.free, I.freeC, fun p hp => ?_, tracked ⟨oc, hoc, I.freeC x c hc⟩ hs, by simpa using I.len⟩ ⟨c, hs, .inr hc⟩
    · exact (hs.2 b (Nat.ne_of_lt (Nat.lt_of_lt_of_le (Heap.lt_size e) (I.ok.cab x c hfn hc)))).trans (I.base.keep b o e n hb hx)
    · obtain ⟨sl, e1⟩ := I.base.slot b o e n hb hx
      exact ⟨sl, (hs.2 b (Nat.ne_of_lt (Nat.lt_of_lt_of_le (Heap.lt_size e) (I.ok.cab x c hfn hc)))).trans e1⟩
    · obtain ⟨o', e1⟩ := I.base.there b o e hx
      exact ⟨o', (hs.2 b (Nat.ne_of_lt (Nat.lt_of_lt_of_le (Heap.lt_size e) (I.ok.cab x c hfn hc)))).trans e1⟩
    · by_cases hj : j = i
      · subst hj
        rw [hi] at e1; cases e1
        rw [List.getElem?_set_self hiσ] at e2
        cases e2
        exact ⟨u, r, .inr ⟨.inl hk, c, hc, hc'⟩⟩
      · rw [List.getElem?_set_ne (Ne.symm hj)] at e2
        obtain ⟨u', r', q⟩ := hl j y v' e1 e2 e3
        refine ⟨u', r', ?_⟩
        rcases q with q | ⟨k, c', e, z'⟩
        · exact .inl q
        · refine .inr ⟨k, c', e, z'.sameBut hs ?_⟩
          rintro rfl
          exact hj (nodup_ix hN e1 (I.ok.inj _ _ _ e hc ▸ hi))
    · by_cases hcc : c' = c
      · subst hcc; exact ⟨_, hc'⟩
      · obtain ⟨w2, z2⟩ := I.cell y c' e
        exact ⟨w2, z2.sameBut hs hcc⟩
    · obtain ⟨e, n, ne, nf, d⟩ := I.pin p hp
      refine ⟨(hs.2 p.1 ?_).trans e, n, ne, nf, d⟩
      intro q
      rw [q, hoc] at e
      have q' : oc = p.2 := Option.some.inj e
      exact d w' (by rw [← q']; exact hocd)
theorem store_ok {M : Model} {A : Around} {E : Value → Shared → Prop} {i : Nat} {x : Str} {v : V} {u : Value} {Q : Unit → Shared → Prop} (I : Inv X pins σ H s) (hN : X.N.Nodup) (hi : X.N[i]? = some x) (hx : Loc X.env.scope x) (r : RelV v u)
    (h : ∀ s', Inv X pins (σ.set i (some v)) H s' → Q () s') (hf : X.fn x = true ∨ X.env.scope.names.lookup x = some .local := by first | exact .inl rfl | exact .inr rfl | assumption) : wpAny M A (storeName X.env x u) Q E s :=
  store_ok2 I hN hi hx r (fun s' I' _ => h s' I') hf
/-- behind a call or a block, the state as it is -/
theorem Inv.call' {s' : Shared} {ch : List Addr} (I : Inv X pins σ H s) (ho : s'.os = s.os) (u : Un (frs X.stack) ch H H' s.heap s'.heap) (hok : HOk X.prog X.w H' s'.heap) (hg : AllBare s'.gens)
    (hch : ∀ b ∈ ch, (b ∈ X.ex ∨ X.s₀.heap.objs.size ≤ b) ∧ b ≠ X.env.locals ∧ (∀ x c, X.env.cells.lookup x = some c → c ≠ b) ∧ ∀ p ∈ X.pn ++ pins, p.1 ≠ b) : Inv X pins σ H' s' := by
  obtain ⟨h', g', d', t', o'⟩ := s'
  have e : o' = s.os := ho
  subst e
  exact I.call (g' := g') (t' := t') (d' := d') u hok hg hch
end

/-! ### the judgements -/
/-- an exception: its class, its own dict's address (where it has one), the abstract heap behind it -/
abbrev XK := Value → Option Addr → Hp → Prop
abbrev St := List (Option V)
abbrev VK := V → Hp → Prop
/-- an expression's reading; a test's; an argument list's -/
abbrev TE := St → Hp → VK → Prop
abbrev TT := St → Hp → (Bool → Hp → Prop) → Prop
abbrev TA := St → Hp → (List V → Hp → Prop) → Prop
/-- what is wanted behind a statement -/
structure Ends where
  nx : St → Hp → Prop
  rt : VK
  bk : St → Hp → Prop := fun _ _ => False
  ct : St → Hp → Prop := fun _ _ => False
abbrev TS := Ends → St → Hp → Prop

def EP (X : Cx) (pins : List (Addr × Obj)) (σ : St) (Q : VK) (u : Value) (s' : Shared) : Prop := ∃ v H', Inv X pins σ H' s' ∧ RelV v u ∧ Q v H'
def TP (X : Cx) (pins : List (Addr × Obj)) (σ : St) (Q : Bool → Hp → Prop) (b : Bool) (s' : Shared) : Prop := ∃ H', Inv X pins σ H' s' ∧ Q b H'
def AP (X : Cx) (pins : List (Addr × Obj)) (σ : St) (Q : List V → Hp → Prop) (us : List Value) (s' : Shared) : Prop := ∃ vs H', Inv X pins σ H' s' ∧ Vals vs us ∧ Q vs H'
def SP (X : Cx) (pins : List (Addr × Obj)) (D : Ends) (f : Flow) (s' : Shared) : Prop :=
  match f with
  | .next => ∃ σ' H', Inv X pins σ' H' s' ∧ D.nx σ' H'
  | .brk => ∃ σ' H', Inv X pins σ' H' s' ∧ D.bk σ' H'
  | .cont => ∃ σ' H', Inv X pins σ' H' s' ∧ D.ct σ' H'
  | .ret u => ∃ v σ' H', Inv X pins σ' H' s' ∧ RelV v u ∧ D.rt v H'

def PE (X : Cx) (e : Expr) (t : TE) : Prop :=
  ∀ (pins : List (Addr × Obj)) (s : Shared) (σ : St) (H : Hp) (Q : VK), Inv X pins σ H s → t σ H Q → wpAny (model X.prog X.w) X.A (eval e X.env) (EP X pins σ Q) X.xe s
def PT (X : Cx) (e : Expr) (t : TT) : Prop :=
  ∀ (pins : List (Addr × Obj)) (s : Shared) (σ : St) (H : Hp) (Q : Bool → Hp → Prop), Inv X pins σ H s → t σ H Q → wpAny (model X.prog X.w) X.A (isTrue e X.env (eval e X.env)) (TP X pins σ Q) X.xe s
/-- a test whatever its 'whole' is (and, or) -/
def PW (X : Cx) (e : Expr) (t : TT) : Prop :=
  ∀ (whole : Sem Value) (pins : List (Addr × Obj)) (s : Shared) (σ : St) (H : Hp) (Q : Bool → Hp → Prop), Inv X pins σ H s → t σ H Q → wpAny (model X.prog X.w) X.A (isTrue e X.env whole) (TP X pins σ Q) X.xe s
theorem PW.pt {X : Cx} {e : Expr} {t : TT} (h : PW X e t) : PT X e t := h _
/-- an argument list (no star), from the left -/
def PA (X : Cx) (es : List Expr) (t : TA) : Prop :=
  ∀ (pos : Pos) (pins : List (Addr × Obj)) (s : Shared) (σ : St) (H : Hp) (Q : List V → Hp → Prop), Inv X pins σ H s → t σ H Q → wpAny (model X.prog X.w) X.A (spliced (backTo pos (starEach es X.env))) (AP X pins σ Q) X.xe s
def PS (X : Cx) (st : Stmt) (t : TS) : Prop :=
  ∀ (pins : List (Addr × Obj)) (s : Shared) (σ : St) (H : Hp) (D : Ends), Inv X pins σ H s → t D σ H → wpAny (model X.prog X.w) X.A (exec st X.env) (SP X pins D) X.xe s
def PSs (X : Cx) (st : List Stmt) (t : TS) : Prop :=
  ∀ (pins : List (Addr × Obj)) (s : Shared) (σ : St) (H : Hp) (D : Ends), Inv X pins σ H s → t D σ H → wpAny (model X.prog X.w) X.A (execs st X.env) (SP X pins D) X.xe s
/-- weaken the end -/
theorem thn {α : Type} {t : Sem α} {Q Q' : α → Shared → Prop} {M : Model} {A : Around} {E : Value → Shared → Prop} {s : Shared} (h : wpAny M A t Q E s) (hQ : ∀ a s, Q a s → Q' a s) : wpAny M A t Q' E s := wpAny_mono h hQ fun _ _ x => x
end L2

namespace L2
open PySem PySem.Spec PyProof.Rows
section
variable {X : Cx}

/-! ### names and constants -/
def tVar (i : Nat) : TE := fun σ H Q => ∃ v, σ[i]? = some (some v) ∧ Q v H
def tC (v : V) : TE := fun _ H Q => Q v H
theorem pe_var {i : Nat} {x : Str} {pos : Pos} (hN : X.N[i]? = some x) (hv : Vis X.env.scope x) (hd : (x == ("__debug__" : Str)) = false := by decide) (hcd : (x == ("__classdict__" : Str)) = false := by decide) : PE X (.Name x pos) (tVar i) := by
  intro pins s σ H Q I h
  obtain ⟨v, e, h⟩ := h
  obtain ⟨m, hn, hl⟩ := I.loc
  obtain ⟨u, r, l⟩ := hl i x v hN e hv
  have fin : EP X pins σ Q u s := ⟨v, H, I, r, h⟩
  rcases l with ⟨hk, hm⟩ | ⟨hk, c, hc, hcell⟩
  · exact wpAny_Name (wpAny_loadName_local I.ok.kind hk hn hm fin) hd
  · rcases hk with hk | hk
    · exact wpAny_Name (wpAny_loadName_cell I.ok.kind hk hc hcell fin) hd
    · exact wpAny_Name (wpAny_loadName_free I.ok.kind hk hc hcell fin hcd) hd
theorem pe_int {i j pos} : PE X (.Constant (.int i) j pos) (tC (.int i)) := fun _ _ _ H _ I h => wpAny_Constant_int ⟨.int i, H, I.tok _, ⟨_, rfl⟩, h⟩
theorem pe_bl {b j pos} : PE X (.Constant (.bool b) j pos) (tC (.bl b)) := fun _ _ _ H _ I h => Constant_bool ⟨.bl b, H, I, rfl, h⟩
theorem pe_non {j pos} : PE X (.Constant .none j pos) (tC .non) := fun _ _ _ H _ I h => Constant_none ⟨.non, H, I, rfl, h⟩
theorem pe_str {x j pos} : PE X (.Constant (.str x) j pos) (tC (.str x)) := fun _ _ _ H _ I h => Calls.Constant_str ⟨.str x, H, I.tok _, ⟨_, rfl⟩, h⟩

/-- a global name of the def -/
def Gl (X : Cx) (x : Str) : Prop := X.env.kindOf x = some .globalImplicit
theorem ld_glob {E : Value → Shared → Prop} {pins : List (Addr × Obj)} {s : Shared} {σ : St} {H : Hp} {x : Str} {u : Value} {pos : Pos} {Q : Value → Shared → Prop} (I : Inv X pins σ H s) (hg : Gl X x) (hm : X.mg x = some u) (h : Q u s)
    (hd : (x == ("__debug__" : Str)) = false := by decide) : wpAny (model X.prog X.w) X.A (eval (.Name x pos) X.env) Q E s :=
  Calls.Name_function_global I.ok.kind hg (Calls.loadGlobal_global (by rw [I.ok.glob]; exact I.mod.glob.keeps I.bk) hm h) hd
theorem ld_blt {E : Value → Shared → Prop} {pins : List (Addr × Obj)} {s : Shared} {σ : St} {H : Hp} {x : Str} {u : Value} {pos : Pos} {Q : Value → Shared → Prop} (I : Inv X pins σ H s) (hg : Gl X x) (hm : X.mg x = none) (hv : bootBuiltins x = some u) (h : Q u s)
    (hn : x ≠ "__name__" := by decide) (hd : (x == ("__debug__" : Str)) = false := by decide) : wpAny (model X.prog X.w) X.A (eval (.Name x pos) X.env) Q E s := by
  obtain ⟨mb, h1, h2⟩ := I.mod.blt
  exact Calls.Name_function_global I.ok.kind hg (Calls.loadGlobal_builtin (by rw [I.ok.glob]; exact I.mod.glob.keeps I.bk) hm (by rw [I.ok.blt]; exact h1.keeps I.bk) ((h2 x hn).trans hv) h) hd
/-- a module's constant, a class, a function, as a value -/
theorem pe_glob {x : Str} {v : V} {u : Value} {pos : Pos} (hg : Gl X x) (hm : X.mg x = some u) (r : RelV v u) (hd : (x == ("__debug__" : Str)) = false := by decide) : PE X (.Name x pos) (tC v) :=
  fun _ _ _ H _ I h => ld_glob I hg hm ⟨v, H, I, r, h⟩ hd
theorem pe_bltn {x : Str} {v : V} {u : Value} {pos : Pos} (hg : Gl X x) (hm : X.mg x = none) (hv : bootBuiltins x = some u) (r : RelV v u) (hn : x ≠ "__name__" := by decide) (hd : (x == ("__debug__" : Str)) = false := by decide) : PE X (.Name x pos) (tC v) :=
  fun _ _ _ H _ I h => ld_blt I hg hm hv ⟨v, H, I, r, h⟩ hn hd

/-! ### arithmetic -/
/-- two ints -/
def t2I (ta tb : TE) (k : Int → Int → Hp → Prop) : St → Hp → Prop := fun σ H => ta σ H fun x H1 => tb σ H1 fun y H2 => ∃ i j, x = .int i ∧ y = .int j ∧ k i j H2
def tAdd (ta tb : TE) : TE := fun σ H Q => t2I ta tb (fun i j H2 => Q (.int (i + j)) H2) σ H
def tSub (ta tb : TE) : TE := fun σ H Q => t2I ta tb (fun i j H2 => Q (.int (i - j)) H2) σ H
/-- the left factor below 2^64 -/
def tMul (ta tb : TE) : TE := fun σ H Q => t2I ta tb (fun i j H2 => (-(2 ^ 64) < i ∧ i < 2 ^ 64) ∧ Q (.int (i * j)) H2) σ H
variable {a b : Expr} {ta tb : TE} {pos : Pos}
/-! ### comparisons -/
def PC (X : Cx) (op : CmpOp) (a b : Expr) (t : TE) : Prop :=
  ∀ (pins : List (Addr × Obj)) (s : Shared) (σ : St) (H : Hp) (Q : VK), Inv X pins σ H s → t σ H Q →
    wpAny (model X.prog X.w) X.A (eval a X.env) (fun v s₁ => wpAny (model X.prog X.w) X.A (eval b X.env) (fun u s₂ => wpAny (model X.prog X.w) X.A (compareOp op v u) (EP X pins σ Q) X.xe s₂) X.xe s₁) X.xe s
def tCmp (p : Int → Int → Bool) (ta tb : TE) : TE := fun σ H Q => t2I ta tb (fun i j H2 => Q (.bl (p i j)) H2) σ H
abbrev tLt : TE → TE → TE := tCmp fun i j => decide (i < j)
abbrev tLe : TE → TE → TE := tCmp fun i j => decide (i ≤ j)
abbrev tGt : TE → TE → TE := tCmp fun i j => decide (j < i)
abbrev tGe : TE → TE → TE := tCmp fun i j => decide (j ≤ i)
abbrev tEqI : TE → TE → TE := tCmp fun i j => decide (i = j)
abbrev tNeI : TE → TE → TE := tCmp fun i j => !decide (i = j)
/-- is None -/
def tIsN (ta : TE) : TE := fun σ H Q => ta σ H fun x H1 => Q (.bl (decide (x = .non))) H1
def tNotN (ta : TE) : TE := fun σ H Q => ta σ H fun x H1 => Q (.bl (!decide (x = .non))) H1
/-- a comparison as a value, as a test -/
def tB (t : TE) : TT := fun σ H Q => t σ H fun x H1 => ∃ c, x = .bl c ∧ Q c H1
/-! ### and, or, not -/
variable {tA tB' : TT} {rest : List Expr}
def tAnd (t u : TT) : TT := fun σ H Q => t σ H fun c H1 => if c = true then u σ H1 Q else Q false H1
def tOr (t u : TT) : TT := fun σ H Q => t σ H fun c H1 => if c = true then Q true H1 else u σ H1 Q
def tNot (t : TT) : TT := fun σ H Q => t σ H fun c H1 => Q (!c) H1
theorem pw_and1 (ha : PT X a tA) : PW X (.BoolOp .And [a] pos) tA := by
  intro wh pins s σ H Q I h
  refine isTrue_and (thn (ha pins s σ H Q I h) fun c s1 e => ?_)
  cases c with
  | true => exact isTrue_and_nil e
  | false => exact e
theorem pw_or1 (ha : PT X a tA) : PW X (.BoolOp .Or [a] pos) tA := by
  intro wh pins s σ H Q I h
  refine isTrue_or (thn (ha pins s σ H Q I h) fun c s1 e => ?_)
  cases c with
  | false => exact isTrue_or_nil e
  | true => exact e
theorem pw_and (ha : PT X a tA) (hb : PW X (.BoolOp .And (b :: rest) pos) tB') : PW X (.BoolOp .And (a :: b :: rest) pos) (tAnd tA tB') := by
  intro wh pins s σ H Q I h
  refine isTrue_and (thn (ha pins s σ H _ I h) fun c s1 ⟨H1, I1, q1⟩ => ?_)
  cases c with
  | true => exact hb wh pins s1 σ H1 Q I1 q1
  | false => exact ⟨H1, I1, q1⟩
theorem pw_or (ha : PT X a tA) (hb : PW X (.BoolOp .Or (b :: rest) pos) tB') : PW X (.BoolOp .Or (a :: b :: rest) pos) (tOr tA tB') := by
  intro wh pins s σ H Q I h
  refine isTrue_or (thn (ha pins s σ H _ I h) fun c s1 ⟨H1, I1, q1⟩ => ?_)
  cases c with
  | true => exact ⟨H1, I1, q1⟩
  | false => exact hb wh pins s1 σ H1 Q I1 q1
theorem pt_not (ha : PT X a tA) : PT X (.UnaryOp .Not a pos) (tNot tA) := by
  intro pins s σ H Q I h
  exact isTrue_not (ha pins s σ H (fun c H1 => Q (!c) H1) I h)
/-- .. as values (bools) -/
def tAndV (ta tb : TE) : TE := fun σ H Q => ta σ H fun x H1 => ∃ c, x = .bl c ∧ if c = true then tb σ H1 Q else Q (.bl false) H1
def tOrV (ta tb : TE) : TE := fun σ H Q => ta σ H fun x H1 => ∃ c, x = .bl c ∧ if c = true then Q (.bl true) H1 else tb σ H1 Q
def tNotV (ta : TE) : TE := fun σ H Q => ta σ H fun x H1 => ∃ c, x = .bl c ∧ Q (.bl (!c)) H1
theorem pe_one {op} {t : TE} (h : PE X a t) : PE X (.BoolOp op [a] pos) t := fun pins s σ H Q I hw => BoolOp_one (h pins s σ H Q I hw)
theorem pe_and (ha : PE X a ta) (hb : PE X (.BoolOp .And (b :: rest) pos) tb) : PE X (.BoolOp .And (a :: b :: rest) pos) (tAndV ta tb) := by
  intro pins s σ H Q I h
  refine BoolOp_and (thn (ha pins s σ H _ I h) fun v s1 ⟨x, H1, I1, r1, q1⟩ => ?_)
  obtain ⟨c, rfl, q1⟩ := q1
  cases r1
  refine wpAny_truthy_bool ?_
  cases c with
  | true => exact hb pins s1 σ H1 Q I1 q1
  | false => exact ⟨.bl false, H1, I1, rfl, q1⟩
theorem pe_not (ha : PE X a ta) : PE X (.UnaryOp .Not a pos) (tNotV ta) := by
  intro pins s σ H Q I h
  refine UnaryOp_ (thn (ha pins s σ H _ I h) fun v s1 ⟨x, H1, I1, r1, q1⟩ => ?_)
  obtain ⟨c, rfl, q1⟩ := q1
  cases r1
  exact not_of (wpAny_truthy_bool ⟨.bl (!c), H1, I1, rfl, q1⟩)
/-- a if t else b -/
def tIf (t : TT) (ta tb : TE) : TE := fun σ H Q => t σ H fun c H1 => if c = true then ta σ H1 Q else tb σ H1 Q
end
end L2

namespace L2
open PySem PySem.Spec PyProof.Rows

/-! ### a list, a tuple that is read: tracked, frozen, or an object of the module -/
def SqL (K : PySem.W.Frag) (H : Hp) (a : Addr) (xs : List V) : Prop :=
  Rd H a (.lst xs) ∨
    ∃ (o : Obj) (its : Array Value) (n : Nat), K.lookup a = some o ∧ o.cls = .type "list" ∧ o.dict = none ∧ o.data = .seq its n ∧ its.size ≤ sizeLine ∧ Vals xs its.toList
def SqT (K : PySem.W.Frag) (H : Hp) (a : Addr) (xs : List V) : Prop :=
  Rd H a (.tup xs) ∨
    ∃ (o : Obj) (its : Array Value) (n : Nat), K.lookup a = some o ∧ o.cls = .type "tuple" ∧ o.data = .seq its n ∧ its.size ≤ sizeLine ∧ Vals xs its.toList
def absV : Value → Option V
  | .none => some .non
  | .bool b => some (.bl b)
  | .int i _ => some (.int i)
  | .str x _ => some (.str x)
  | .bytes b _ => some (.byt b)
  | .float b _ => some (.flt b)
  | .ref a => some (.ref a)
  | .type n => some (.ty n)
  | _ => none
theorem RelV.abs {x : V} {u : Value} (r : RelV x u) : absV u = some x := by
  cases x with
  | non => cases r; rfl
  | bl _ => cases r; rfl
  | int _ => obtain ⟨t, rfl⟩ := r; rfl
  | str _ => obtain ⟨t, rfl⟩ := r; rfl
  | byt _ => obtain ⟨t, rfl⟩ := r; rfl
  | flt _ => obtain ⟨t, rfl⟩ := r; rfl
  | ref _ => cases r; rfl
  | ty _ => cases r; rfl
theorem RelV.inj {x y : V} {u : Value} (r : RelV x u) (q : RelV y u) : x = y := Option.some.inj (r.abs.symm.trans q.abs)
theorem Vals.inj : ∀ {xs ys : List V} {us : List Value}, Vals xs us → Vals ys us → xs = ys
  | _, _, _, .nil, .nil => rfl
  | _, _, _, .cons r t, .cons r' t' => by rw [r.inj r', Vals.inj t t']
section
variable {X : Cx} {pins : List (Addr × Obj)} {σ : St} {H : Hp} {s : Shared} {a : Addr} {xs ys : List V}
theorem SqL.of {K : PySem.W.Frag} (h : H a = some (.lst xs)) : SqL K H a xs := .inl (.inl h)
theorem SqT.of {K : PySem.W.Frag} (h : H a = some (.tup xs)) : SqT K H a xs := .inl (.inl h)
theorem Inv.list (I : Inv X pins σ H s) (h : SqL X.K H a xs) : ∃ its : List Value, Vals xs its ∧ PlainL s.heap a its.toArray ∧ xs.length ≤ sizeLine := by
  rcases h with h | ⟨o, its, n, hk, hc, hd, hs, hz, r⟩
  · obtain ⟨z, its, n, r, e⟩ := h.ok I.hok
    exact ⟨its, r, ⟨_, n, e, rfl, rfl, rfl⟩, z⟩
  · refine ⟨its.toList, r, ⟨o, n, I.kIn a o hk, hc, hd, by simpa using hs⟩, ?_⟩
    have e := r.length
    simp only [Array.length_toList] at e
    omega
theorem Inv.tuple (I : Inv X pins σ H s) (h : SqT X.K H a xs) : ∃ its : List Value, Vals xs its ∧ IsTup s.heap a its.toArray ∧ xs.length ≤ sizeLine := by
  rcases h with h | ⟨o, its, n, hk, hc, hs, hz, r⟩
  · obtain ⟨z, its, r, p⟩ := h.ok I.hok
    exact ⟨its, r, p, z⟩
  · refine ⟨its.toList, r, ⟨o, I.kIn a o hk, hc, n, by simpa using hs⟩, ?_⟩
    have e := r.length
    simp only [Array.length_toList] at e
    omega
theorem Inv.list_inj (I : Inv X pins σ H s) (h : SqL X.K H a xs) (h' : SqL X.K H a ys) : xs = ys := by
  obtain ⟨its, r, ⟨o, n, e, _, _, d⟩, _⟩ := I.list h
  obtain ⟨its', r', ⟨o', n', e', _, _, d'⟩, _⟩ := I.list h'
  rw [e] at e'; cases e'
  rw [d] at d'
  injection d' with d1 _
  have : its = its' := by simpa using congrArg Array.toList d1
  subst this
  exact r.inj r'
theorem Inv.tuple_inj (I : Inv X pins σ H s) (h : SqT X.K H a xs) (h' : SqT X.K H a ys) : xs = ys := by
  obtain ⟨its, r, ⟨o, e, _, n, d⟩, _⟩ := I.tuple h
  obtain ⟨its', r', ⟨o', e', _, n', d'⟩, _⟩ := I.tuple h'
  rw [e] at e'; cases e'
  rw [d] at d'
  injection d' with d1 _
  have : its = its' := by simpa using congrArg Array.toList d1
  subst this
  exact r.inj r'
end

/-! ### another wish about exceptions -/
abbrev Cx.wish (X : Cx) (E : Value → Shared → Prop) : Cx := { X with xe := E }
/-- no exception leaves -/
abbrev Cx.nox (X : Cx) : Cx := X.wish fun _ _ => False
theorem Cx.Ok.wish {X : Cx} (ok : X.Ok) (E : Value → Shared → Prop) : (X.wish E).Ok :=
  ⟨ok.mod, ok.kind, ok.glob, ok.blt, ok.above, ok.inj, ok.has, ok.cab, ok.hd, ok.frames, ok.stk, ok.exf, ok.bs, ok.bsz, ok.noex, ok.exfs, ok.funs, ok.frf⟩
theorem Cx.Ok.unwish {X : Cx} {E : Value → Shared → Prop} (ok : (X.wish E).Ok) : X.Ok :=
  ⟨ok.mod, ok.kind, ok.glob, ok.blt, ok.above, ok.inj, ok.has, ok.cab, ok.hd, ok.frames, ok.stk, ok.exf, ok.bs, ok.bsz, ok.noex, ok.exfs, ok.funs, ok.frf⟩
section
variable {X : Cx} {pins : List (Addr × Obj)} {σ : St} {H : Hp} {s : Shared} {E : Value → Shared → Prop}
theorem Inv.wish (I : Inv X pins σ H s) (E : Value → Shared → Prop) : Inv (X.wish E) pins σ H s := ⟨I.ok.wish E, I.os, I.bare, I.base, I.loc, I.cell, I.free, I.freeC, I.pin, I.hok, I.len⟩
theorem Inv.unwish (I : Inv (X.wish E) pins σ H s) : Inv X pins σ H s := ⟨I.ok.unwish, I.os, I.bare, I.base, I.loc, I.cell, I.free, I.freeC, I.pin, I.hok, I.len⟩
theorem SP.unwish {D : Ends} {f : Flow} {s' : Shared} (h : SP (X.wish E) pins D f s') : SP X pins D f s' := by
  cases f with
  | next => obtain ⟨σ', H', I, q⟩ := h; exact ⟨σ', H', I.unwish, q⟩
  | brk => obtain ⟨σ', H', I, q⟩ := h; exact ⟨σ', H', I.unwish, q⟩
  | cont => obtain ⟨σ', H', I, q⟩ := h; exact ⟨σ', H', I.unwish, q⟩
  | ret u => obtain ⟨v, σ', H', I, r, q⟩ := h; exact ⟨v, σ', H', I.unwish, r, q⟩
theorem PSs.nox {st : List Stmt} {t : TS} (h : PSs X.nox st t) : PSs X st t := fun pins s σ H D I hw =>
  wpAny_mono (h pins s σ H D (I.wish _) hw) (fun _ _ q => q.unwish) fun _ _ z => False.elim z
end

/-! ### blocks and small statements -/
section
variable {X : Cx} {st : Stmt} {rest : List Stmt} {t u : TS} {e : Expr} {te : TE} {pos : Pos}
def tNext : TS := fun D σ H => D.nx σ H
def tSeq (t u : TS) : TS := fun D σ H => t { D with nx := u D } σ H
theorem pss_nil : PSs X [] tNext := fun _ _ σ H _ I h => wpAny_execs_nil ⟨σ, H, I, h⟩
theorem pss_cons (h1 : PS X st t) (h2 : PSs X rest u) : PSs X (st :: rest) (tSeq t u) := by
  intro pins s σ H D I h
  refine wpAny_execs_cons (thn (h1 pins s σ H { D with nx := u D } I h) fun f s1 q => ?_)
  cases f with
  | next =>
    obtain ⟨σ', H', I', q⟩ := q
    exact h2 pins s1 σ' H' D I' q
  | ret v => exact q
  | brk => exact q
  | cont => exact q
theorem pss_one (h1 : PS X st t) : PSs X [st] t := by
  intro pins s σ H D I h
  refine wpAny_execs_cons (thn (h1 pins s σ H D I h) fun f s1 q => ?_)
  cases f with
  | next => exact wpAny_execs_nil q
  | ret v => exact q
  | brk => exact q
  | cont => exact q
def tBreak : TS := fun D σ H => D.bk σ H
def tCont : TS := fun D σ H => D.ct σ H
/-- in a def's body nothing is shown -/
theorem Inv.quiet {pins : List (Addr × Obj)} {σ : St} {H : Hp} {s : Shared} (I : Inv X pins σ H s) : interactive X.env = false := by simp [interactive, I.ok.kind]
/-- an expression whose value is dropped -/
def tDrop (te : TE) : TS := fun D σ H => te σ H fun _ H1 => D.nx σ H1
theorem ps_expr (he : PE X e te) (hs : swapsWith e none pos.line X.env = pure false := by rfl) : PS X (.Expr e pos) (tDrop te) := by
  intro pins s σ H D I h
  exact wpAny_Expr_any (thn (he pins s σ H _ I h) fun v s1 ⟨x, H1, I1, r1, q1⟩ => ⟨σ, H1, I1, q1⟩) I.quiet hs
def tRet (te : TE) : TS := fun D σ H => te σ H D.rt
theorem ps_ret (he : PE X e te) : PS X (.Return (some e) pos) (tRet te) := by
  intro pins s σ H D I h
  exact wpAny_Return_some (thn (he pins s σ H _ I h) fun v s1 ⟨x, H1, I1, r1, q1⟩ => ⟨x, σ, H1, I1, r1, q1⟩)
def tRetN : TS := fun D _ H => D.rt .non H
def tIfS (c : TT) (t u : TS) : TS := fun D σ H => c σ H fun b H1 => if b = true then t D σ H1 else u D σ H1
theorem ps_if {c : Expr} {a b : List Stmt} {tc : TT} (hc : PT X c tc) (ha : PSs X a t) (hb : PSs X b u) : PS X (.If c a b pos) (tIfS tc t u) := by
  intro pins s σ H D I h
  refine wpAny_If (thn (hc pins s σ H _ I h) fun d s1 ⟨H1, I1, q1⟩ => ?_)
  cases d with
  | true => exact ha pins s1 σ H1 D I1 q1
  | false => exact hb pins s1 σ H1 D I1 q1
/-- code that the proof never comes to -/
def tNever : TS := fun _ _ _ => False
end

/-! ### targets -/
abbrev TG := V → St → Hp → (St → Hp → Prop) → Prop
abbrev TGs := List V → St → Hp → (St → Hp → Prop) → Prop
def PG (X : Cx) (target : Expr) (t : TG) : Prop :=
  ∀ (pins : List (Addr × Obj)) (s : Shared) (σ : St) (H : Hp) (v : V) (u : Value) (Q : St → Hp → Prop), Inv X pins σ H s → RelV v u → t v σ H Q →
    wpAny (model X.prog X.w) X.A (assign target X.env u) (fun _ s' => ∃ σ' H', Inv X pins σ' H' s' ∧ Q σ' H') X.xe s
/-- several targets, one after another -/
def PGs (X : Cx) (ts : List Expr) (t : TGs) : Prop :=
  ∀ (pins : List (Addr × Obj)) (s : Shared) (σ : St) (H : Hp) (vs : List V) (us : List Value) (Q : St → Hp → Prop), Inv X pins σ H s → Vals vs us → t vs σ H Q →
    wpAny (model X.prog X.w) X.A (assignInOrder ((assignEach ts X.env).map (·.2)) us) (fun _ s' => ∃ σ' H', Inv X pins σ' H' s' ∧ Q σ' H') X.xe s
/-- o[i] = v, by values -/
abbrev TSet := V → V → V → Hp → (Hp → Prop) → Prop
def PSet (X : Cx) (t : TSet) : Prop :=
  ∀ (pins : List (Addr × Obj)) (s : Shared) (σ : St) (H : Hp) (o i v : V) (ov iv u : Value) (Q : Hp → Prop), Inv X pins σ H s → RelV o ov → RelV i iv → RelV v u → t o i v H Q →
    wpAny (model X.prog X.w) X.A (setItem ov iv u) (fun _ s' => ∃ H', Inv X pins σ H' s' ∧ Q H') X.xe s
/-- a op= b, by values -/
abbrev TIp := V → V → Hp → VK → Prop
def PIp (X : Cx) (op : Operator) (t : TIp) : Prop :=
  ∀ (pins : List (Addr × Obj)) (s : Shared) (σ : St) (H : Hp) (x y : V) (v u : Value) (Q : VK), Inv X pins σ H s → RelV x v → RelV y u → t x y H Q →
    wpAny (model X.prog X.w) X.A (inplaceOp op v u) (EP X pins σ Q) X.xe s
section
variable {X : Cx} {pos : Pos}
def gName (i : Nat) : TG := fun v σ H Q => Q (σ.set i (some v)) H
theorem pg_name {i : Nat} {x : Str} (hN : X.N.Nodup) (hi : X.N[i]? = some x) (hx : Loc X.env.scope x) (hf : X.fn x = true ∨ X.env.scope.names.lookup x = some .local := by first | exact .inl rfl | exact .inr rfl | assumption) : PG X (.Name x pos) (gName i) := by
  intro pins s σ H v u Q I r h
  exact wpAny_assign_Name (store_ok I hN hi hx r (fun s' I' => ⟨_, H, I', h⟩) hf)
def gNil : TGs := fun vs σ H Q => vs = [] ∧ Q σ H
def gCons (t : TG) (u : TGs) : TGs := fun vs σ H Q => ∃ v r, vs = v :: r ∧ t v σ H fun σ' H' => u r σ' H' Q
theorem pgs_nil : PGs X [] gNil := by
  intro pins s σ H vs us Q I r h
  obtain ⟨e, h⟩ := h
  subst e
  cases r
  exact assignInOrder_nil ⟨σ, H, I, h⟩
theorem pgs_cons {e : Expr} {es : List Expr} {t : TG} {u : TGs} (h1 : PG X e t) (h2 : PGs X es u)
    (hs : (assignEach (e :: es) X.env).map (·.2) = assign e X.env :: (assignEach es X.env).map (·.2) := by rfl) : PGs X (e :: es) (gCons t u) := by
  intro pins s σ H vs us Q I r h
  obtain ⟨v, vr, e1, h⟩ := h
  subst e1
  cases r with
  | cons r rr =>
    rw [hs]
    refine assignInOrder_cons (thn (h1 pins s σ H _ _ _ I r h) fun _ s1 ⟨σ1, H1, I1, q1⟩ => ?_)
    exact h2 pins s1 σ1 H1 _ _ Q I1 rr q1
/-- (a, b, ..) = a tuple of that length -/
def gTup (K : PySem.W.Frag) (n : Nat) (t : TGs) : TG := fun v σ H Q => ∃ a xs, v = .ref a ∧ SqT K H a xs ∧ xs.length = n ∧ t xs σ H Q
theorem pg_tup {es : List Expr} {k : Nat} {t : TGs} {n : Nat} (hc : X.calm = true) (h : PGs X es t)
    (hn : (assignEach es X.env).length = n := by rfl) (hst : (assignEach es X.env).findIdx? (·.1) = none := by rfl) : PG X (.Tuple es k pos) (gTup X.K n t) := by
  intro pins s σ H v u Q I r hw
  obtain ⟨a, xs, e1, hq, hl, hw⟩ := hw
  subst e1
  cases r
  obtain ⟨its, rv, ht, hz⟩ := I.tuple hq
  refine assign_Tuple_tuple (I.ok.hd hc) ht (by simp [hn, ← hl, rv.length]) hst fun h' hx => ?_
  have I1 : Inv X pins σ H { s with heap := h' } := I.kept (t' := s.toks) fun b o e => hx b o (Nat.ne_of_lt (Heap.lt_size e)) e
  exact h pins _ σ H xs _ Q I1 (by simpa using rv) hw
/-- o[i] = .. -/
def gSub (to ti : TE) (t : TSet) : TG := fun v σ H Q => to σ H fun o H1 => ti σ H1 fun i H2 => t o i v H2 fun H3 => Q σ H3
theorem pg_sub {o i : Expr} {to ti : TE} {t : TSet} (ho : PE X o to) (hi : PE X i ti) (hs : PSet X t)
    (ha : ∀ v, assign (.Subscript o i pos) X.env v = (do
      let ov ← holding [v] (eval o X.env)
      let iv ← holding [v, ov] (eval i X.env)
      standAt pos
      holding [v, ov, iv] (setItem ov iv v)
      release [v, ov, iv] []) := by intro _; rfl) : PG X (.Subscript o i pos) (gSub to ti t) := by
  intro pins s σ H v u Q I r h
  rw [ha]
  refine wpAny_bind (wpAny_holding (thn (ho pins s σ H _ I h) fun ov s1 ⟨x, H1, I1, r1, q1⟩ => ?_))
  refine wpAny_bind (wpAny_holding (thn (hi pins s1 σ H1 _ I1 q1) fun iv s2 ⟨y, H2, I2, r2, q2⟩ => ?_))
  refine wpAny_bind (wpAny_standAt (wpAny_bind (wpAny_holding (thn (hs pins s2 σ H2 x y v ov iv u _ I2 r1 r2 r q2) fun _ s3 ⟨H3, I3, q3⟩ => ?_))))
  exact wpAny_release ⟨σ, H3, I3, q3⟩
/-- target = value -/
def tAsg (te : TE) (g : TG) : TS := fun D σ H => te σ H fun x H1 => g x σ H1 D.nx
theorem ps_asg {tg e : Expr} {te : TE} {g : TG} (he : PE X e te) (hg : PG X tg g) (hs : swapsWithSole [tg] e pos.line X.env = pure false := by rfl) (hw : swappedStores [tg] e X.env = pure none := by rfl)
    (h1 : (assignEach [tg] X.env).map (·.2) = [assign tg X.env] := by rfl) : PS X (.Assign [tg] e pos) (tAsg te g) := by
  intro pins s σ H D I h
  refine wpAny_Assign_stores (thn (he pins s σ H _ I h) fun v s1 ⟨x, H1, I1, r1, q1⟩ => ?_) hs hw
  rw [h1]
  exact thn (hg pins s1 σ H1 x v _ I1 r1 q1) fun _ s2 q => q
/-- name = value -/
theorem ps_set {i : Nat} {x : Str} {e : Expr} {te : TE} {pos' : Pos} (hN : X.N.Nodup) (hi : X.N[i]? = some x) (hx : Loc X.env.scope x) (he : PE X e te) (hs : swapsWith e (some (.Name x pos')) pos.line X.env = pure false := by rfl) (hf : X.fn x = true ∨ X.env.scope.names.lookup x = some .local := by first | exact .inl rfl | exact .inr rfl | assumption) :
    PS X (.Assign [.Name x pos'] e pos) (tAsg te (gName i)) := by
  intro pins s σ H D I h
  refine wpAny_Assign_Name (thn (he pins s σ H _ I h) fun v s1 ⟨y, H1, I1, r1, q1⟩ => ?_) hs
  exact store_ok I1 hN hi hx r1 (fun s2 I2 => ⟨_, H1, I2, q1⟩) hf
/-- a, b = x, y with plain local names: stored from the right; the pair itself is not tracked (the opening rows as in PyProof/Rows/TupAssign.lean:23) -/
def tPar (i j : Nat) (ta : TA) : TS := fun D σ H => ta σ H fun vs H1 => ∃ v w, vs = [v, w] ∧ D.nx ((σ.set i (some v)).set j (some w)) H1
/-- name op= e -/
def tAug (i : Nat) (te : TE) (ti : TIp) : TS := fun D σ H => ∃ x, σ[i]? = some (some x) ∧ te σ H fun y H1 => ti x y H1 fun z H2 => D.nx (σ.set i (some z)) H2
/-- o[i] op= e -/
def tAugS (to ti te : TE) (tget : V → V → Hp → VK → Prop) (tip : TIp) (tset : TSet) : TS := fun D σ H => to σ H fun o H1 => ti σ H1 fun i H2 => tget o i H2 fun x H3 => te σ H3 fun y H4 => tip x y H4 fun z H5 => tset o i z H5 fun H6 => D.nx σ H6
/-- o[i], by values -/
def PGet (X : Cx) (t : V → V → Hp → VK → Prop) : Prop :=
  ∀ (pins : List (Addr × Obj)) (s : Shared) (σ : St) (H : Hp) (o i : V) (ov iv : Value) (Q : VK), Inv X pins σ H s → RelV o ov → RelV i iv → t o i H Q →
    wpAny (model X.prog X.w) X.A (getItem ov iv) (EP X pins σ Q) X.xe s
/-- ints -/
def ipI (f : Int → Int → Int) : TIp := fun x y H Q => ∃ i j, x = .int i ∧ y = .int j ∧ Q (.int (f i j)) H
end

/-! ### while -/
section
variable {X : Cx} {pos : Pos}
/-- the invariant W with its measure -/
def tWhile (c : TT) (tb : TS) : TS := fun D σ H => ∃ W : Nat → St → Hp → Prop, (∃ m, W m σ H) ∧ ∀ m σ H, W m σ H →
  c σ H fun b H1 => if b = true then ∃ N : St → Hp → Prop, (∀ σ' H', N σ' H' → ∃ m', m' < m ∧ W m' σ' H') ∧ tb { D with nx := N, ct := N, bk := D.nx } σ H1 else D.nx σ H1
end

/-! ### what a loop or a comprehension walks -/
/-- at turn i: it yields x (the heap may grow), or it stops -/
structure It where
  go : Nat → Hp → Prop
  yld : Nat → Hp → V → Hp → Prop
  stop : Nat → Hp → Prop
/-- the iterator's own objects may turn: they are not the frame's, not pinned, younger than the entry (or a comprehension's own) -/
def FpOk (X : Cx) (pins : List (Addr × Obj)) (H : Hp) (b : Addr) : Prop :=
  H b = none ∧ b ≠ X.env.locals ∧ b ∉ X.fs ∧ (b ∈ X.ex ∨ X.s₀.heap.objs.size ≤ b) ∧ (∀ x c, X.env.cells.lookup x = some c → c ≠ b) ∧ ∀ p ∈ X.pn ++ pins, p.1 ≠ b
theorem Inv.fpOk {X : Cx} {pins : List (Addr × Obj)} {σ : St} {H H' : Hp} {s : Shared} {b : Addr} (I : Inv X pins σ H s) (hb : s.heap.objs.size ≤ b) (hn : H' b = none) : FpOk X pins H' b := by
  refine ⟨hn, Nat.ne_of_gt (Nat.lt_of_lt_of_le I.lt hb), I.nofs hb, .inr (Nat.le_trans I.sz hb), fun x c e z => ?_, fun p hp z => ?_⟩
  · obtain ⟨v, q⟩ := I.cell x c e
    exact absurd (Nat.lt_of_lt_of_le q.lt (by rw [z]; exact hb)) (Nat.lt_irrefl _)
  · exact absurd (Nat.lt_of_lt_of_le (Heap.lt_size (I.pin p hp).1) (by rw [z]; exact hb)) (Nat.lt_irrefl _)
structure Turn (P : Program) (w : World) (K : PySem.W.Frag) (tg : Expr) (J : It) (fp : List Addr) (it : Addr) (tn : Nat → Heap → Prop) : Prop where
  mem : it ∈ fp
  obj : ∀ i h, tn i h → ∀ b ∈ fp, ∃ o, h.get? b = some o ∧ ∀ v, o.data ≠ .cell v
  keep : ∀ i h h', tn i h → (∀ b ∈ fp, ∀ o, h.get? b = some o → h'.get? b = some o) → tn i h'
  item : ∀ (X : Cx), X.prog = P → X.w = w → X.K = K → X.calm = true → ∀ (i : Nat) (pins : List (Addr × Obj)) (s : Shared) (σ : St) (H : Hp) (E : Value → Shared → Prop), Inv X pins σ H s → (∀ b ∈ fp, FpOk X pins H b) → tn i s.heap → J.go i H →
    wpAny (model P w) X.A (pyNext (.ref it)) (fun r s1 => ∃ u, r = some u ∧
      wpAny (model P w) X.A (letOwnedTupleGo tg (.ref it) u) (fun _ s2 => ∃ x H', Inv X pins σ H' s2 ∧ RelV x u ∧ J.yld i H x H' ∧ tn (i + 1) s2.heap ∧ ∀ b ∈ fp, H' b = none) E s1) E s
  done : ∀ (X : Cx), X.prog = P → X.w = w → X.K = K → X.calm = true → ∀ (i : Nat) (pins : List (Addr × Obj)) (s : Shared) (σ : St) (H : Hp) (E : Value → Shared → Prop), Inv X pins σ H s → (∀ b ∈ fp, FpOk X pins H b) → tn i s.heap → J.stop i H →
    wpAny (model P w) X.A (pyNext (.ref it)) (fun r s1 => r = none ∧ Inv X pins σ H s1) E s
  self : ∀ (A : Around) (i : Nat) (s : Shared) (Q : Value → Shared → Prop) (E : Value → Shared → Prop), tn i s.heap → Q (.ref it) s → wpAny (model P w) A (pyIter (.ref it)) Q E s
abbrev TI := St → Hp → (It → Hp → Prop) → Prop
/-- an iterator has come -/
def PIE (X : Cx) (pins : List (Addr × Obj)) (σ : St) (tg : Expr) (R : It → Hp → Prop) (itv : Value) (s2 : Shared) : Prop :=
  ∃ (it : Addr) (fp : List Addr) (tn : Nat → Heap → Prop) (J : It) (H' : Hp), itv = .ref it ∧ Inv X pins σ H' s2 ∧ Turn X.prog X.w X.K tg J fp it tn ∧ tn 0 s2.heap ∧ (∀ b ∈ fp, FpOk X pins H' b) ∧ R J H'
def PI (X : Cx) (tg iter : Expr) (wi : TI) : Prop :=
  ∀ (pins : List (Addr × Obj)) (s : Shared) (σ : St) (H : Hp) (R : It → Hp → Prop), Inv X pins σ H s → wi σ H R →
    wpAny (model X.prog X.w) X.A (eval iter X.env) (fun v s1 => wpAny (model X.prog X.w) X.A (pyIter v) (PIE X pins σ tg R) X.xe s1) X.xe s

/-- the step ahead of the store is nothing for an iterator that keeps no tuple -/
theorem go_of {M : Model} {A : Around} {E : Value → Shared → Prop} {s : Shared} {tg : Expr} {it : Addr} {u : Value} {o : Obj} {n : String} {vs : Array Value} {Q : Unit → Shared → Prop} (ho : s.heap.get? it = some o) (hc : o.cls = .type n) (hd : o.data = .fields vs)
    (hn : ["enumerate", "zip", "dict_itemiterator", "dict_reverseitemiterator", "odict_iterator", "itertools.zip_longest", "itertools.pairwise"].contains n = false) (hQ : Q () s) : wpAny M A (letOwnedTupleGo tg (.ref it) u) Q E s := by
  unfold letOwnedTupleGo
  cases tg <;> first
    | exact wpAny_pure hQ
    | (cases u <;> first
        | exact wpAny_pure hQ
        | (refine wpAny_bind (wpAny_load ho ?_)
           rw [hc, hd]
           show wpAny M A (if (["enumerate", "zip", "dict_itemiterator", "dict_reverseitemiterator", "odict_iterator", "itertools.zip_longest", "itertools.pairwise"].contains n && vs[0]? == some (rawInt _)) = true then _ else _) Q E s
           rw [if_neg (by intro h; rw [hn, Bool.false_and] at h; cases h)]
           exact wpAny_pure hQ))

/-- the list at a, as it stands at each turn (a loop may append to it) -/
def Itl (K : PySem.W.Frag) (a : Addr) : It :=
  ⟨fun i H => ∃ xs x, SqL K H a xs ∧ xs[i]? = some x, fun i H x H' => H' = H ∧ ∀ xs, SqL K H a xs → xs[i]? = some x, fun i H => ∃ xs, SqL K H a xs ∧ xs.length ≤ i⟩
def Itt (K : PySem.W.Frag) (a : Addr) : It :=
  ⟨fun i H => ∃ xs x, SqT K H a xs ∧ xs[i]? = some x, fun i H x H' => H' = H ∧ ∀ xs, SqT K H a xs → xs[i]? = some x, fun i H => ∃ xs, SqT K H a xs ∧ xs.length ≤ i⟩
/-- lo, lo + 1, .. (n of them) -/
def Itr (lo : Int) (n : Nat) : It := ⟨fun i _ => i < n, fun i H x H' => H' = H ∧ x = .int (lo + i), fun i _ => n ≤ i⟩
theorem turn_list {P : Program} {w : World} {K : PySem.W.Frag} {tg : Expr} (a it : Addr) : Turn P w K tg (Itl K a) [it] it (fun i h => h.IsListIter it a i) where
  mem := by simp
  obj := fun i h st b hb => by
    have e : b = it := by simpa using hb
    subst e
    obtain ⟨o, e, c, d⟩ := st
    exact ⟨o, e, fun v z => by rw [d] at z; cases z⟩
  keep := fun i h h' st k => st.at fun o e => k it (by simp) o e
  item := by
    intro X hP hw hK hc i pins s σ H E I hf st hg
    subst hP hw hK
    obtain ⟨xs, x, hq, hx⟩ := hg
    obtain ⟨its, rv, p, hz⟩ := I.list hq
    obtain ⟨u, hu, ru⟩ := rv.get hx
    obtain ⟨f0, f1, f2, f3, f4, f5⟩ := hf it (by simp)
    refine wpAny_pyNext_list_item st p.isList (x := u) (by simpa using hu) fun h' st' sb => ?_
    have I1 : Inv X pins σ H { s with heap := h' } := I.turned (t' := s.toks) (fun b o hb e => (sb.2 b hb).trans e) f0 f1 f3 f4 f5
    obtain ⟨o, e, c, d⟩ := id st'
    exact ⟨u, rfl, go_of (s := { s with heap := h' }) e c d (by decide) ⟨x, H, I1, ru, ⟨rfl, fun ys hy => by rw [I.list_inj hy hq]; exact hx⟩, st', fun b hb => (hf b hb).1⟩⟩
  done := by
    intro X hP hw hK hc i pins s σ H E I hf st hg
    subst hP hw hK
    obtain ⟨xs, hq, hx⟩ := hg
    obtain ⟨its, rv, p, hz⟩ := I.list hq
    obtain ⟨f0, f1, f2, f3, f4, f5⟩ := hf it (by simp)
    have hl := rv.length
    exact wpAny_pyNext_list_end (I.ok.hd hc) st p.isList (by simp; omega) fun h' eb => ⟨rfl, I.turned (t' := s.toks) (fun b o hb e => eb b o hb e) f0 f1 f3 f4 f5⟩
  self := fun _ _ _ _ _ st h => wpAny_pyIter_listiter st h
theorem turn_tuple {P : Program} {w : World} {K : PySem.W.Frag} {tg : Expr} (a it : Addr) : Turn P w K tg (Itt K a) [it] it (fun i h => h.IsTupleIter it a i) where
  mem := by simp
  obj := fun i h st b hb => by
    have e : b = it := by simpa using hb
    subst e
    obtain ⟨o, e, c, d⟩ := st
    exact ⟨o, e, fun v z => by rw [d] at z; cases z⟩
  keep := fun i h h' st k => st.at fun o e => k it (by simp) o e
  item := by
    intro X hP hw hK hc i pins s σ H E I hf st hg
    subst hP hw hK
    obtain ⟨xs, x, hq, hx⟩ := hg
    obtain ⟨its, rv, p, hz⟩ := I.tuple hq
    obtain ⟨u, hu, ru⟩ := rv.get hx
    obtain ⟨f0, f1, f2, f3, f4, f5⟩ := hf it (by simp)
    refine wpAny_pyNext_tuple_item st (show s.heap.IsTuple a its.toArray from p) (x := u) (by simpa using hu) fun h' st' sb => ?_
    have I1 : Inv X pins σ H { s with heap := h' } := I.turned (t' := s.toks) (fun b o hb e => (sb.2 b hb).trans e) f0 f1 f3 f4 f5
    obtain ⟨o, e, c, d⟩ := id st'
    exact ⟨u, rfl, go_of (s := { s with heap := h' }) e c d (by decide) ⟨x, H, I1, ru, ⟨rfl, fun ys hy => by rw [I.tuple_inj hy hq]; exact hx⟩, st', fun b hb => (hf b hb).1⟩⟩
  done := by
    intro X hP hw hK hc i pins s σ H E I hf st hg
    subst hP hw hK
    obtain ⟨xs, hq, hx⟩ := hg
    obtain ⟨its, rv, p, hz⟩ := I.tuple hq
    obtain ⟨f0, f1, f2, f3, f4, f5⟩ := hf it (by simp)
    have hl := rv.length
    exact wpAny_pyNext_tuple_end (I.ok.hd hc) st (show s.heap.IsTuple a its.toArray from p) (by simp; omega) fun h' eb => ⟨rfl, I.turned (t' := s.toks) (fun b o hb e => eb b o hb e) f0 f1 f3 f4 f5⟩
  self := fun _ _ _ _ _ st h => wpAny_pyIter_tupleiter st h
theorem turn_range {P : Program} {w : World} {K : PySem.W.Frag} {tg : Expr} (it : Addr) (lo : Int) (n : Nat) : Turn P w K tg (Itr lo n) [it] it (fun i h => IsRangeIter h it (lo + (i : Nat) * 1) ((n : Int) - (i : Nat)) 1) where
  mem := by simp
  obj := fun i h st b hb => by
    have e : b = it := by simpa using hb
    subst e
    exact ⟨_, st, fun v z => by
      have z' : Data.fields _ = Data.cell v := z
      cases z'⟩
  keep := fun i h h' st k => k it (by simp) _ st
  item := by
    intro X hP hw hK hc i pins s σ H E I hf st hg
    subst hP hw hK
    obtain ⟨f0, f1, f2, f3, f4, f5⟩ := hf it (by simp)
    have W := Walks.range (prog := X.prog) (w := X.w) (I.ok.hd hc) it lo 1 n
    refine W.item i s _ _ hg st fun v h' tk hv st' kk => ?_
    obtain ⟨t, rfl⟩ := hv
    have I1 : Inv X pins σ H { s with heap := h', toks := tk } := I.turned (fun b o hb e => kk b o (by simpa using hb) e) f0 f1 f3 f4 f5
    refine ⟨_, rfl, go_of (s := { s with heap := h', toks := tk }) (n := "range_iterator") st' rfl rfl (by decide) ⟨.int (lo + i), H, I1, ⟨t, ?_⟩, ⟨rfl, rfl⟩, st', fun b hb => (hf b hb).1⟩⟩
    rw [Int.mul_one]
  done := by
    intro X hP hw hK hc i pins s σ H E I hf st hg
    subst hP hw hK
    obtain ⟨f0, f1, f2, f3, f4, f5⟩ := hf it (by simp)
    exact wpAny_pyNext_range_end (I.ok.hd hc) st (by have : n ≤ i := hg; omega) fun h' eb => ⟨rfl, I.turned (t' := s.toks) (fun b o hb e => eb b o hb e) f0 f1 f3 f4 f5⟩
  self := fun _ _ _ _ _ st h => wpAny_pyIter_rangeiter st h
end L2

namespace L2
open PySem PySem.Spec PyProof.Rows
section
variable {X : Cx} {tg : Expr}
def iList (K : PySem.W.Frag) (tl : TE) : TI := fun σ H R => tl σ H fun x H1 => ∃ a, x = .ref a ∧ (∃ xs, SqL K H1 a xs) ∧ R (Itl K a) H1
def iTup (K : PySem.W.Frag) (tl : TE) : TI := fun σ H R => tl σ H fun x H1 => ∃ a, x = .ref a ∧ (∃ xs, SqT K H1 a xs) ∧ R (Itt K a) H1
theorem pi_list {l : Expr} {tl : TE} (hl : PE X l tl) : PI X tg l (iList X.K tl) := by
  intro pins s σ H R I h
  refine thn (hl pins s σ H _ I h) fun v s1 ⟨x, H1, I1, r1, q1⟩ => ?_
  obtain ⟨a, e, ⟨xs, hq⟩, q⟩ := q1
  subst e
  cases r1
  obtain ⟨its, rv, p, hz⟩ := I1.list hq
  refine wpAny_pyIter_list p.isList ?_
  refine ⟨s1.heap.objs.size, [s1.heap.objs.size], _, _, H1, rfl, I1.kept (t' := s1.toks) fun b o e => Heap.get?_push_of_some _ e, turn_list a _, ⟨_, Heap.get?_push_size _ rfl, rfl, rfl⟩, fun b hb => ?_, q⟩
  have e : b = s1.heap.objs.size := by simpa using hb
  subst e
  exact I1.fpOk (Nat.le_refl _) (I1.hok.fresh (Nat.le_refl _))
theorem pi_tup {l : Expr} {tl : TE} (hl : PE X l tl) : PI X tg l (iTup X.K tl) := by
  intro pins s σ H R I h
  refine thn (hl pins s σ H _ I h) fun v s1 ⟨x, H1, I1, r1, q1⟩ => ?_
  obtain ⟨a, e, ⟨xs, hq⟩, q⟩ := q1
  subst e
  cases r1
  obtain ⟨its, rv, p, hz⟩ := I1.tuple hq
  refine wpAny_pyIter_tuple (show s1.heap.IsTuple a its.toArray from p) ?_
  refine ⟨s1.heap.objs.size, [s1.heap.objs.size], _, _, H1, rfl, I1.kept (t' := s1.toks) fun b o e => Heap.get?_push_of_some _ e, turn_tuple a _, ⟨_, Heap.get?_push_size _ rfl, rfl, rfl⟩, fun b hb => ?_, q⟩
  have e : b = s1.heap.objs.size := by simpa using hb
  subst e
  exact I1.fpOk (Nat.le_refl _) (I1.hok.fresh (Nat.le_refl _))
/-- a range object just made, walked -/
theorem range_it {pins : List (Addr × Obj)} {σ : St} {H : Hp} {s : Shared} {R : It → Hp → Prop} {E : Value → Shared → Prop} {lo hi : Int} {t u v : Tok} {tk : Nat} (I : Inv X pins σ H s) (h1 : -(2 ^ 62) ≤ lo) (h2 : lo < 2 ^ 62) (h3 : -(2 ^ 62) ≤ hi) (h4 : hi < 2 ^ 62)
    (q : R (Itr lo (hi - lo).toNat) H) : wpAny (model X.prog X.w) X.A (pyIter (.ref s.heap.objs.size)) (PIE X pins σ tg R) E { s with heap := s.heap.push { cls := .type "range", data := .fields #[.int lo t, .int hi u, .int 1 v] }, toks := tk } := by
  refine wpAny_pyIter_range (IsRange.new ..) (small_one h1 h2 h3 h4) ?_
  have I1 : Inv X pins σ H { s with heap := s.heap.push { cls := .type "range", data := .fields #[.int lo t, .int hi u, .int 1 v] }, toks := tk } := I.kept fun b o e => Heap.get?_push_of_some _ e
  refine ⟨(s.heap.push { cls := .type "range", data := .fields #[.int lo t, .int hi u, .int 1 v] }).objs.size, [(s.heap.push { cls := .type "range", data := .fields #[.int lo t, .int hi u, .int 1 v] }).objs.size], _, _, H, rfl,
    I1.kept (t' := tk) fun b o e => Heap.get?_push_of_some _ e, turn_range _ lo (hi - lo).toNat, ?_, fun b hb => ?_, q⟩
  · have e1 : lo + ((0 : Nat) : Int) * 1 = lo := by simp
    have e2 : (((hi - lo).toNat : Nat) : Int) - ((0 : Nat) : Int) = Builtin.Range.rangeSize lo hi 1 := by rw [rangeSize_one]; split <;> omega
    show IsRangeIter _ _ (lo + ((0 : Nat) : Int) * 1) ((((hi - lo).toNat : Nat) : Int) - ((0 : Nat) : Int)) 1
    rw [e1, e2]
    exact Heap.get?_push_size _ rfl
  · have e : b = (s.heap.push { cls := .type "range", data := .fields #[.int lo t, .int hi u, .int 1 v] }).objs.size := by simpa using hb
    subst e
    exact I1.fpOk (Nat.le_refl _) (I1.hok.fresh (Nat.le_refl _))
def iRng1 (ta : TA) : TI := fun σ H R => ta σ H fun vs H1 => ∃ j : Int, vs = [.int j] ∧ -(2 ^ 62) ≤ j ∧ j < 2 ^ 62 ∧ R (Itr 0 j.toNat) H1
def iRng2 (ta : TA) : TI := fun σ H R => ta σ H fun vs H1 => ∃ i j : Int, vs = [.int i, .int j] ∧ (-(2 ^ 62) ≤ i ∧ i < 2 ^ 62 ∧ -(2 ^ 62) ≤ j ∧ j < 2 ^ 62) ∧ R (Itr i (j - i).toNat) H1
theorem pi_range1 {a : Expr} {ta : TA} {p pos : Pos} (hg : Gl X "range") (hm : X.mg "range" = none) (ha : PA X [a] ta) (hs : starEach [a] X.env = [(false, eval a X.env)] := by rfl) : PI X tg (.Call (.Name "range" p) [a] [] pos) (iRng1 ta) := by
  intro pins s σ H R I h
  refine Call_ (ld_blt I hg hm boot_range (PyProof.Rows.callWith_type1 (thn (ha pos pins s σ H _ I h) fun us s1 ⟨vs, H1, I1, r1, q1⟩ => ?_) hs rfl))
  obtain ⟨j, e, q1, q2, q⟩ := q1
  subst e
  cases r1 with
  | cons r rr =>
    cases rr
    obtain ⟨t, rfl⟩ := r
    exact call_range_1 (range_it I1 (by omega) (by omega) q1 q2 (by simpa using q))
theorem pi_range2 {a b : Expr} {ta : TA} {p pos : Pos} (hg : Gl X "range") (hm : X.mg "range" = none) (ha : PA X [a, b] ta) (hs : starEach [a, b] X.env = [(false, eval a X.env), (false, eval b X.env)] := by rfl) (hs2 : starEach [b] X.env = [(false, eval b X.env)] := by rfl) :
    PI X tg (.Call (.Name "range" p) [a, b] [] pos) (iRng2 ta) := by
  intro pins s σ H R I h
  refine Call_ (ld_blt I hg hm boot_range (PyProof.Rows.callWith_type1 (thn (ha pos pins s σ H _ I h) fun us s1 ⟨vs, H1, I1, r1, q1⟩ => ?_) (by rw [hs, hs2]) (by rw [hs2]; rfl)))
  obtain ⟨i, j, e, ⟨q1, q2, q3, q4⟩, q⟩ := q1
  subst e
  cases r1 with
  | cons r rr =>
    cases rr with
    | cons r' rr =>
      cases rr
      obtain ⟨t, rfl⟩ := r
      obtain ⟨t', rfl⟩ := r'
      exact call_range_2 (range_it I1 q1 q2 q3 q4 q)

/-! ### for -/
/-- W: the invariant by the turn and a measure; N: what the body is to reach -/
def tFor (wi : TI) (g : TG) (tb : TS) : TS := fun D σ H => wi σ H fun J H1 => ∃ W : Nat → Nat → St → Hp → Prop, (∃ m, W 0 m σ H1) ∧ ∀ i m σ H, W i m σ H →
  (J.stop i H ∧ D.nx σ H) ∨ (J.go i H ∧ ∃ N : St → Hp → Prop, (∀ σ' H', N σ' H' → ∃ m', m' < m ∧ W (i + 1) m' σ' H') ∧ ∀ x H', J.yld i H x H' → g x σ H' fun σ2 H2 => tb { D with nx := N, ct := N, bk := D.nx } σ2 H2)
/-- the records at fp as they stand -/
def pinsAt (fp : List Addr) (h : Heap) : List (Addr × Obj) := fp.filterMap fun b => (h.get? b).map fun o => (b, o)
theorem mem_pinsAt {fp : List Addr} {h : Heap} {b : Addr} {o : Obj} (hb : b ∈ fp) (e : h.get? b = some o) : (b, o) ∈ pinsAt fp h := List.mem_filterMap.mpr ⟨b, hb, by rw [e]; rfl⟩
theorem of_pinsAt {fp : List Addr} {h : Heap} {p : Addr × Obj} (hp : p ∈ pinsAt fp h) : p.1 ∈ fp ∧ h.get? p.1 = some p.2 := by
  obtain ⟨b, hb, e⟩ := List.mem_filterMap.mp hp
  cases q : h.get? b with
  | none => rw [q] at e; cases e
  | some o =>
    rw [q] at e
    have e' : (b, o) = p := Option.some.inj e
    subst e'
    exact ⟨hb, q⟩
theorem Inv.pinned {pins : List (Addr × Obj)} {σ : St} {H : Hp} {s : Shared} {fp : List Addr} (I : Inv X pins σ H s) (hf : ∀ b ∈ fp, FpOk X pins H b) (ho : ∀ b ∈ fp, ∃ o, s.heap.get? b = some o ∧ ∀ v, o.data ≠ .cell v) : Inv X (pins ++ pinsAt fp s.heap) σ H s :=
  I.pins_of fun p hp => (List.mem_append.mp hp).elim (fun z => I.pin p (List.mem_append_right _ z)) fun z => by
    obtain ⟨hb, e⟩ := of_pinsAt z
    obtain ⟨f0, f1, f2, _⟩ := hf p.1 hb
    obtain ⟨o, e', d⟩ := ho p.1 hb
    rw [e] at e'; cases e'
    exact ⟨e, f0, f1, f2, d⟩
theorem Inv.unpinned {pins pl : List (Addr × Obj)} {σ : St} {H : Hp} {s : Shared} (I : Inv X (pins ++ pl) σ H s) : Inv X pins σ H s := I.pins_of fun p hp => I.pin p (List.mem_append_right _ (List.mem_append_left _ hp))
theorem ps_for {iter : Expr} {body : List Stmt} {wi : TI} {g : TG} {tb : TS} {pos : Pos} (hp : PassesOwn (model X.prog X.w) X.A X.env X.xe) (hc : X.calm = true) (hi : PI X tg iter wi) (hg : PG X tg g) (hb : PSs X body tb)
    (hs : ∀ x, foldedSetIterable iter X.env x = pure x := by intro _; rfl) : PS X (.For tg iter body [] pos) (tFor wi g tb) := by
  intro pins s σ H D I h
  refine wpAny_For (thn (hi pins s σ H _ I h) fun v s1 h1 => thn h1 fun itv s2 h2 => ?_) hs
  obtain ⟨it, fp, tn, J, H2, e, I2, T, st2, f2, W, ⟨m0, w0⟩, turn⟩ := h2
  subst e
  -- what stays true of the iterator's objects through the loop
  have stat : ∀ {H' : Hp}, (∀ b ∈ fp, H' b = none) → ∀ b ∈ fp, FpOk X pins H' b := fun hn b hb => ⟨hn b hb, (f2 b hb).2⟩
  refine codeAny_forLoop_any (fun n s' => ∃ i σ' H', Inv X pins σ' H' s' ∧ tn i s'.heap ∧ (∀ b ∈ fp, H' b = none) ∧ W i n σ' H') ?_ m0 ⟨0, σ, H2, I2, st2, fun b hb => (f2 b hb).1, w0⟩
  rintro n s3 ⟨i, σ3, H3, I3, st3, fr3, w3⟩
  rcases turn i n σ3 H3 w3 with ⟨stop, qn⟩ | ⟨go, N, hN, step⟩
  · refine wpAny_passesOwn hp (thn (T.done X rfl rfl rfl hc i pins s3 σ3 H3 X.xe I3 (stat fr3) st3 stop) fun r s4 ⟨hr, I4⟩ => ?_)
    subst hr
    exact wpAny_execs_nil ⟨σ3, H3, I4, qn⟩
  · refine wpAny_passesOwn hp (thn (T.item X rfl rfl rfl hc i pins s3 σ3 H3 X.xe I3 (stat fr3) st3 go) fun r s4 ⟨u, hr, h4⟩ => ?_)
    subst hr
    refine wpAny_passesOwn hp (thn h4 fun _ s5 ⟨x, H5, I5, r5, y5, st5, fr5⟩ => ?_)
    have I5' := I5.pinned (stat fr5) (T.obj _ _ st5)
    refine wpAny_passesOwn hp (thn (hg _ s5 σ3 H5 x u _ I5' r5 (step x H5 y5)) fun _ s6 ⟨σ6, H6, I6, q6⟩ => ?_)
    refine wpAny_passesOwn hp (thn (hb _ s6 σ6 H6 _ I6 q6) fun f s7 q7 => ?_)
    have again : ∀ {σ7 : St} {H7 : Hp}, Inv X (pins ++ pinsAt fp s5.heap) σ7 H7 s7 → N σ7 H7 → ∃ m, m < n ∧ ∃ i σ' H', Inv X pins σ' H' s7 ∧ tn i s7.heap ∧ (∀ b ∈ fp, H' b = none) ∧ W i m σ' H' := fun {σ7 H7} I7 n7 => by
      obtain ⟨m', hm, w7⟩ := hN σ7 H7 n7
      refine ⟨m', hm, i + 1, σ7, H7, I7.unpinned, T.keep _ _ _ st5 fun b hb o e => (I7.pin (b, o) (List.mem_append_right _ (List.mem_append_right _ (mem_pinsAt hb e)))).1, fun b hb => ?_, w7⟩
      obtain ⟨o, e, d⟩ := T.obj _ _ st5 b hb
      exact (I7.pin (b, o) (List.mem_append_right _ (List.mem_append_right _ (mem_pinsAt hb e)))).2.1
    cases f with
    | next => obtain ⟨σ7, H7, I7, n7⟩ := q7; exact again I7 n7
    | cont => obtain ⟨σ7, H7, I7, n7⟩ := q7; exact again I7 n7
    | brk => obtain ⟨σ7, H7, I7, q7⟩ := q7; exact ⟨σ7, H7, I7.unpinned, q7⟩
    | ret v => obtain ⟨x7, σ7, H7, I7, r7, q7⟩ := q7; exact ⟨x7, σ7, H7, I7.unpinned, r7, q7⟩
end

/-! ### the forms one uses -/
/-- over a list that the body leaves as it is -/
theorem for_list {K : PySem.W.Frag} {a : Addr} {xs : List V} {g : TG} {tb : TS} {D : Ends} {σ : St} {H : Hp} (Pv : Nat → St → Hp → Prop) (h0 : Pv 0 σ H) (hl : ∀ i σ H, i ≤ xs.length → Pv i σ H → SqL K H a xs)
    (hs : ∀ i x σ H, xs[i]? = some x → Pv i σ H → g x σ H fun σ2 H2 => tb { D with nx := Pv (i + 1), ct := Pv (i + 1), bk := D.nx } σ2 H2) (hd : ∀ σ H, Pv xs.length σ H → D.nx σ H) :
    ∃ W : Nat → Nat → St → Hp → Prop, (∃ m, W 0 m σ H) ∧ ∀ i m σ H, W i m σ H →
      ((Itl K a).stop i H ∧ D.nx σ H) ∨ ((Itl K a).go i H ∧ ∃ N : St → Hp → Prop, (∀ σ' H', N σ' H' → ∃ m', m' < m ∧ W (i + 1) m' σ' H') ∧ ∀ x H', (Itl K a).yld i H x H' → g x σ H' fun σ2 H2 => tb { D with nx := N, ct := N, bk := D.nx } σ2 H2) := by
  refine ⟨fun i m σ H => m = xs.length - i ∧ i ≤ xs.length ∧ Pv i σ H, ⟨xs.length, by simp, Nat.zero_le _, h0⟩, ?_⟩
  rintro i m σ H ⟨rfl, hi, p⟩
  have q := hl i σ H hi p
  by_cases hlt : i < xs.length
  · refine .inr ⟨⟨xs, xs[i], q, by simp [hlt]⟩, Pv (i + 1), fun σ' H' p' => ⟨xs.length - (i + 1), by omega, rfl, hlt, p'⟩, fun x H' y => ?_⟩
    obtain ⟨e, y⟩ := y
    subst e
    exact hs i x σ _ (y xs q) p
  · have e : i = xs.length := by omega
    subst e
    exact .inl ⟨⟨xs, q, Nat.le_refl _⟩, hd σ H p⟩
theorem for_range {lo : Int} {n : Nat} {g : TG} {tb : TS} {D : Ends} {σ : St} {H : Hp} (Pv : Nat → St → Hp → Prop) (h0 : Pv 0 σ H)
    (hs : ∀ i σ H, i < n → Pv i σ H → g (.int (lo + i)) σ H fun σ2 H2 => tb { D with nx := Pv (i + 1), ct := Pv (i + 1), bk := D.nx } σ2 H2) (hd : ∀ σ H, Pv n σ H → D.nx σ H) :
    ∃ W : Nat → Nat → St → Hp → Prop, (∃ m, W 0 m σ H) ∧ ∀ i m σ H, W i m σ H →
      ((Itr lo n).stop i H ∧ D.nx σ H) ∨ ((Itr lo n).go i H ∧ ∃ N : St → Hp → Prop, (∀ σ' H', N σ' H' → ∃ m', m' < m ∧ W (i + 1) m' σ' H') ∧ ∀ x H', (Itr lo n).yld i H x H' → g x σ H' fun σ2 H2 => tb { D with nx := N, ct := N, bk := D.nx } σ2 H2) := by
  refine ⟨fun i m σ H => m = n - i ∧ i ≤ n ∧ Pv i σ H, ⟨n, by simp, Nat.zero_le _, h0⟩, ?_⟩
  rintro i m σ H ⟨rfl, hi, p⟩
  by_cases hlt : i < n
  · refine .inr ⟨hlt, Pv (i + 1), fun σ' H' p' => ⟨n - (i + 1), by omega, rfl, hlt, p'⟩, fun x H' y => ?_⟩
    obtain ⟨e, y⟩ := y
    subst e y
    exact hs i σ _ hlt p
  · have e : i = n := by omega
    subst e
    exact .inl ⟨Nat.le_refl _, hd σ H p⟩
end L2

namespace L2
open PySem PySem.Spec PyProof.Rows

abbrev R2 := V → V → Hp → VK → Prop
/-- a two-place operation on values: f is binaryOp op, inplaceOp op or compareOp op -/
def OpR (X : Cx) (f : Value → Value → Sem Value) (r : R2) : Prop :=
  ∀ (pins : List (Addr × Obj)) (s : Shared) (σ : St) (H : Hp) (x y : V) (v u : Value) (Q : VK), Inv X pins σ H s → RelV x v → RelV y u → r x y H Q →
    wpAny (model X.prog X.w) X.A (f v u) (EP X pins σ Q) X.xe s
/-- a one-place operation -/
def UnR (X : Cx) (f : Value → Sem Value) (r : V → Hp → VK → Prop) : Prop :=
  ∀ (pins : List (Addr × Obj)) (s : Shared) (σ : St) (H : Hp) (x : V) (v : Value) (Q : VK), Inv X pins σ H s → RelV x v → r x H Q →
    wpAny (model X.prog X.w) X.A (f v) (EP X pins σ Q) X.xe s
/-- a call of a value that is known (a builtin, a type) with values -/
def CallR (X : Cx) (f : Value) (r : List V → Hp → VK → Prop) : Prop :=
  ∀ (pins : List (Addr × Obj)) (s : Shared) (σ : St) (H : Hp) (xs : List V) (us : List Value) (Q : VK), Inv X pins σ H s → Vals xs us → r xs H Q →
    wpAny (model X.prog X.w) X.A (call f us) (EP X pins σ Q) X.xe s
/-- a value's truth -/
def TruR (X : Cx) (r : V → Hp → (Bool → Hp → Prop) → Prop) : Prop :=
  ∀ (pins : List (Addr × Obj)) (s : Shared) (σ : St) (H : Hp) (x : V) (v : Value) (Q : Bool → Hp → Prop), Inv X pins σ H s → RelV x v → r x H Q →
    wpAny (model X.prog X.w) X.A (truthy v) (TP X pins σ Q) X.xe s

def tOp (r : R2) (ta tb : TE) : TE := fun σ H Q => ta σ H fun x H1 => tb σ H1 fun y H2 => r x y H2 Q
def tUn (r : V → Hp → VK → Prop) (ta : TE) : TE := fun σ H Q => ta σ H fun x H1 => r x H1 Q
/-- ints in, under C, and a value out -/
def rI (C : Int → Int → Prop) (g : Int → Int → V) : R2 := fun x y H Q => ∃ i j, x = .int i ∧ y = .int j ∧ C i j ∧ Q (g i j) H
def rI0 (g : Int → Int → V) : R2 := fun x y H Q => ∃ i j, x = .int i ∧ y = .int j ∧ Q (g i j) H
def rU (g : Int → V) : V → Hp → VK → Prop := fun x H Q => ∃ i, x = .int i ∧ Q (g i) H

section
variable {X : Cx} {a b c : Expr} {ta tb tc : TE} {pos : Pos}

theorem binT (ha : PE X a ta) (hb : PE X b tb) {pins : List (Addr × Obj)} {s : Shared} {σ : St} {H : Hp} {R : V → V → Hp → Prop} (I : Inv X pins σ H s)
    (h : ta σ H fun x H1 => tb σ H1 fun y H2 => R x y H2) {Q : Value → Shared → Prop} {f : Value → Value → Sem Value}
    (hf : ∀ v u s2 x y H2, Inv X pins σ H2 s2 → RelV x v → RelV y u → R x y H2 → wpAny (model X.prog X.w) X.A (f v u) Q X.xe s2) :
    wpAny (model X.prog X.w) X.A (eval a X.env) (fun v s₁ => wpAny (model X.prog X.w) X.A (eval b X.env) (fun u s₂ => wpAny (model X.prog X.w) X.A (f v u) Q X.xe s₂) X.xe s₁) X.xe s := by
  refine thn (ha pins s σ H _ I h) fun v s1 ⟨x, H1, I1, r1, q1⟩ => ?_
  refine thn (hb pins s1 σ H1 _ I1 q1) fun u s2 ⟨y, H2, I2, r2, q2⟩ => ?_
  exact hf v u s2 x y H2 I2 r1 r2 q2

theorem pe_op {op : Operator} {r : R2} (ho : OpR X (binaryOp op) r) (ha : PE X a ta) (hb : PE X b tb) : PE X (.BinOp a op b pos) (tOp r ta tb) := by
  intro pins s σ H Q I h
  exact wpAny_BinOp (binT ha hb I h fun v u s2 x y H2 I2 rx ry q => ho pins s2 σ H2 x y v u Q I2 rx ry q)
theorem pe_un {op : UnaryOp} {r : V → Hp → VK → Prop} (ho : UnR X (unaryOp op) r) (ha : PE X a ta) : PE X (.UnaryOp op a pos) (tUn r ta) := by
  intro pins s σ H Q I h
  exact UnaryOp_ (thn (ha pins s σ H _ I h) fun v s1 ⟨x, H1, I1, r1, q1⟩ => ho pins s1 σ H1 x v Q I1 r1 q1)
/-! ### ints -/
theorem opI {f : Value → Value → Sem Value} {C : Int → Int → Prop} {g : Int → Int → Int}
    (rule : ∀ (i j : Int) (t u : Tok) (s : Shared) (Q : Value → Shared → Prop) (E : Value → Shared → Prop), C i j → Q (.int (g i j) s.toks) { s with toks := s.toks + 1 } → wpAny (model X.prog X.w) X.A (f (.int i t) (.int j u)) Q E s) :
    OpR X f (rI C fun i j => .int (g i j)) := by
  intro pins s σ H x y v u Q I rx ry h
  obtain ⟨i, j, rfl, rfl, hc, q⟩ := h
  obtain ⟨t, rfl⟩ := rx
  obtain ⟨t', rfl⟩ := ry
  exact rule i j t t' s _ _ hc ⟨.int (g i j), H, I.tok _, ⟨_, rfl⟩, q⟩
theorem opI0 {f : Value → Value → Sem Value} {g : Int → Int → Int}
    (rule : ∀ (i j : Int) (t u : Tok) (s : Shared) (Q : Value → Shared → Prop) (E : Value → Shared → Prop), Q (.int (g i j) s.toks) { s with toks := s.toks + 1 } → wpAny (model X.prog X.w) X.A (f (.int i t) (.int j u)) Q E s) :
    OpR X f (rI0 fun i j => .int (g i j)) := by
  intro pins s σ H x y v u Q I rx ry h
  obtain ⟨i, j, rfl, rfl, q⟩ := h
  obtain ⟨t, rfl⟩ := rx
  obtain ⟨t', rfl⟩ := ry
  exact rule i j t t' s _ _ ⟨.int (g i j), H, I.tok _, ⟨_, rfl⟩, q⟩
theorem opB0 {f : Value → Value → Sem Value} {g : Int → Int → Bool}
    (rule : ∀ (i j : Int) (t u : Tok) (s : Shared) (Q : Value → Shared → Prop) (E : Value → Shared → Prop), Q (.bool (g i j)) s → wpAny (model X.prog X.w) X.A (f (.int i t) (.int j u)) Q E s) :
    OpR X f (rI0 fun i j => .bl (g i j)) := by
  intro pins s σ H x y v u Q I rx ry h
  obtain ⟨i, j, rfl, rfl, q⟩ := h
  obtain ⟨t, rfl⟩ := rx
  obtain ⟨t', rfl⟩ := ry
  exact rule i j t t' s _ _ ⟨.bl (g i j), H, I, rfl, q⟩

def CDiv (i j : Int) : Prop := 0 < j ∧ j < 1073741824
def CDivN (i j : Int) : Prop := j ≠ 0 ∧ j.natAbs < 1073741824
def CPow (i j : Int) : Prop := 0 ≤ j ∧ j ≤ 1000000 ∧ i.natAbs < 2 ^ 64
def CMul (i j : Int) : Prop := (-(2 ^ 64) < i ∧ i < 2 ^ 64) ∨ (-(2 ^ 64) < j ∧ j < 2 ^ 64)
theorem CMul.ok {i j : Int} (h : CMul i j) : IntMulOk i j := by
  rcases h with ⟨h1, h2⟩ | ⟨h1, h2⟩
  · exact .of_left (intBits_le_64 h1 h2)
  · exact .of_right (intBits_le_64 h1 h2)
theorem op_add : OpR X (binaryOp .Add) (rI0 fun i j => .int (i + j)) := opI0 fun _ _ _ _ _ _ _ q => add_int q
theorem op_sub : OpR X (binaryOp .Sub) (rI0 fun i j => .int (i - j)) := opI0 fun _ _ _ _ _ _ _ q => sub_int q
theorem op_mul : OpR X (binaryOp .Mult) (rI CMul fun i j => .int (i * j)) := opI fun _ _ _ _ _ _ _ hc q => mul_int q hc.ok
/-- // by a positive divisor -/
theorem op_fdiv : OpR X (binaryOp .FloorDiv) (rI CDiv fun i j => .int (i / j)) := opI fun i j _ _ _ _ _ hc q => by
  have h1 : (0 : Int) < j := hc.1
  have h2 : j < 1073741824 := hc.2
  exact floordiv_int (by omega) (by rw [Int.fdiv_eq_ediv_of_nonneg i (by omega)]; exact q) (.inl (PyProof.noPylong_small (by omega)))
/-- % by a positive divisor of any size -/
theorem op_mod : OpR X (binaryOp .Mod) (rI (fun _ j => 0 < j) fun i j => .int (i % j)) := opI fun i j _ _ _ _ _ hc q => by
  have h1 : (0 : Int) < j := hc
  exact mod_int' (by omega) (by rw [Int.fmod_eq_emod_of_nonneg i (by omega)]; exact q)
theorem op_pow : OpR X (binaryOp .Pow) (rI CPow fun i j => .int (i ^ j.toNat)) := opI fun _ _ _ _ _ _ _ hc q => pow_int_small hc.1 hc.2.1 hc.2.2 q
theorem unI {f : Value → Sem Value} {g : Int → Int}
    (rule : ∀ (i : Int) (t : Tok) (s : Shared) (Q : Value → Shared → Prop) (E : Value → Shared → Prop), Q (.int (g i) s.toks) { s with toks := s.toks + 1 } → wpAny (model X.prog X.w) X.A (f (.int i t)) Q E s) :
    UnR X f (rU fun i => .int (g i)) := by
  intro pins s σ H x v Q I rx h
  obtain ⟨i, rfl, q⟩ := h
  obtain ⟨t, rfl⟩ := rx
  exact rule i t s _ _ ⟨.int (g i), H, I.tok _, ⟨_, rfl⟩, q⟩
theorem un_neg : UnR X (unaryOp .USub) (rU fun i => .int (-i)) := unI fun _ _ _ _ _ q => neg_int q
/-! ### bools among ints: n += (a < b) -/
end

/-! ### comparisons -/
/-- the scalars that == tells apart as data does -/
def scal : V → V → Bool
  | .non, .non => true | .non, .int _ => true | .int _, .non => true | .non, .bl _ => true | .bl _, .non => true | .non, .str _ => true | .str _, .non => true
  | .int _, .int _ => true | .bl _, .bl _ => true | .str _, .str _ => true | .byt _, .byt _ => true
  | .int _, .str _ => true | .str _, .int _ => true | .bl _, .str _ => true | .str _, .bl _ => true
  | _, _ => false
def rEq : R2 := fun x y H Q => scal x y = true ∧ Q (.bl (decide (x = y))) H
def rNe : R2 := fun x y H Q => scal x y = true ∧ Q (.bl (!decide (x = y))) H

section
variable {X : Cx} {a b c : Expr} {ta tb tc : TE} {pos : Pos}
theorem op_lt : OpR X (compareOp .Lt) (rI0 fun i j => .bl (decide (i < j))) := opB0 fun _ _ _ _ _ _ _ q => lt_int q
theorem op_le : OpR X (compareOp .LtE) (rI0 fun i j => .bl (decide (i ≤ j))) := opB0 fun _ _ _ _ _ _ _ q => le_int q
theorem op_gt : OpR X (compareOp .Gt) (rI0 fun i j => .bl (decide (j < i))) := opB0 fun _ _ _ _ _ _ _ q => gt_int q
theorem op_ge : OpR X (compareOp .GtE) (rI0 fun i j => .bl (decide (j ≤ i))) := opB0 fun _ _ _ _ _ _ _ q => ge_int q
/-- is, is not of two objects that are tracked lists or instances -/
def isObj : HO → Bool
  | .lst _ => true
  | .ins _ _ _ => true
  | _ => false
/-- two rules for one operation: by cases -/
theorem OpR.or {f : Value → Value → Sem Value} {r r' : R2} (h : OpR X f r) (h' : OpR X f r') : OpR X f (fun x y H Q => r x y H Q ∨ r' x y H Q) := by
  intro pins s σ H x y v u Q I rx ry q
  rcases q with q | q
  · exact h pins s σ H x y v u Q I rx ry q
  · exact h' pins s σ H x y v u Q I rx ry q

theorem nomark (b : Expr) {op : CmpOp} (h : op ≠ .In := by decide) (h2 : op ≠ .NotIn := by decide) : behindInMarks op b = false := by
  have e1 : (op == CmpOp.In) = false := by cases op <;> first | rfl | exact absurd rfl h
  have e2 : (op == CmpOp.NotIn) = false := by cases op <;> first | rfl | exact absurd rfl h2
  cases b <;> simp [behindInMarks, e1, e2]
/-- a comparison as a value; hm: nomark b, or (for in, not in) by with_unfolding_all rfl -/
theorem pe_cmpR {op : CmpOp} {r : R2} (ho : OpR X (compareOp op) r) (ha : PE X a ta) (hb : PE X b tb) (hm : behindInMarks op b = false) : PE X (.Compare a [op] [b] pos) (tOp r ta tb) := by
  intro pins s σ H Q I h
  exact wpAny_Compare1 (binT ha hb I h fun v u s2 x y H2 I2 rx ry q => ho pins s2 σ H2 x y v u Q I2 rx ry q) hm
/-- a reading of a value as a test -/
def tTest (t : TE) : TT := fun σ H Q => t σ H fun x H' => ∃ k, x = .bl k ∧ Q k H'
theorem pt_cmpR {op : CmpOp} {r : R2} (ho : OpR X (compareOp op) r) (ha : PE X a ta) (hb : PE X b tb) (hm : behindInMarks op b = false) : PT X (.Compare a [op] [b] pos) (tTest (tOp r ta tb)) := by
  intro pins s σ H Q I h
  refine wpAny_isTrue_Compare1 (thn (ha pins s σ H _ I h) fun v s1 ⟨x, H1, I1, r1, q1⟩ => thn (hb pins s1 σ H1 _ I1 q1) fun u s2 ⟨y, H2, I2, r2, q2⟩ =>
    thn (ho pins s2 σ H2 x y v u _ I2 r1 r2 q2) fun c s3 ⟨z, H3, I3, r3, k, e, q3⟩ => ?_) hm
  subst e
  cases r3
  exact wpAny_truthy_bool ⟨H3, I3, q3⟩
/-- a op1 b op2 c -/
def tChain (r r' : R2) (ta tb tc : TE) : TE := fun σ H Q => ta σ H fun x H1 => tb σ H1 fun y H2 => r x y H2 fun z H3 => ∃ k, z = .bl k ∧
  (if k = true then tc σ H3 fun w' H4 => r' y w' H4 Q else Q (.bl false) H3)
theorem pe_chain {op op' : CmpOp} {r r' : R2} (ho : OpR X (compareOp op) r) (ho' : OpR X (compareOp op') r') (ha : PE X a ta) (hb : PE X b tb) (hc : PE X c tc)
    (hm : lastMarks [op, op'] [b, c] = false := by with_unfolding_all rfl) : PE X (.Compare a [op, op'] [b, c] pos) (tChain r r' ta tb tc) := by
  intro pins s σ H Q I h
  refine Compare_chain (thn (ha pins s σ H _ I h) fun v s1 ⟨x, H1, I1, r1, q1⟩ => chain_link (thn (hb pins s1 σ H1 _ I1 q1) fun u s2 ⟨y, H2, I2, r2, q2⟩ =>
    thn (ho pins s2 σ H2 x y v u _ I2 r1 r2 q2) fun d s3 ⟨z, H3, I3, r3, k, e, q3⟩ => ?_)) hm
  subst e
  cases r3
  refine wpAny_truthy_bool ?_
  cases k with
  | false => exact ite_ff ⟨.bl false, H3, I3, rfl, q3⟩
  | true => exact ite_tt (chain_last (thn (hc pins s3 σ H3 _ I3 q3) fun w' s4 ⟨z', H4, I4, r4, q4⟩ => ho' pins s4 σ H4 y z' u w' Q I4 r2 r4 q4))
theorem pt_chain {op op' : CmpOp} {r r' : R2} (ho : OpR X (compareOp op) r) (ho' : OpR X (compareOp op') r') (ha : PE X a ta) (hb : PE X b tb) (hc : PE X c tc)
    (hm : lastMarks [op, op'] [b, c] = false := by with_unfolding_all rfl) : PT X (.Compare a [op, op'] [b, c] pos) (tTest (tChain r r' ta tb tc)) := by
  intro pins s σ H Q I h
  refine isTrue_chain (thn (ha pins s σ H _ I h) fun v s1 ⟨x, H1, I1, r1, q1⟩ => test_link (thn (hb pins s1 σ H1 _ I1 q1) fun u s2 ⟨y, H2, I2, r2, q2⟩ =>
    thn (ho pins s2 σ H2 x y v u _ I2 r1 r2 q2) fun d s3 ⟨z, H3, I3, r3, k, e, q3⟩ => ?_)) hm
  subst e
  cases r3
  refine wpAny_truthy_bool ?_
  cases k with
  | false =>
    obtain ⟨k', e', q'⟩ := q3
    cases e'
    exact ite_ff ⟨H3, I3, q'⟩
  | true =>
    refine ite_tt (test_last (thn (hc pins s3 σ H3 _ I3 q3) fun w' s4 ⟨z', H4, I4, r4, q4⟩ => thn (ho' pins s4 σ H4 y z' u w' _ I4 r2 r4 q4) fun d' s5 ⟨z2, H5, I5, r5, k2, e2, q5⟩ => ?_))
    subst e2
    cases r5
    exact wpAny_truthy_bool ⟨H5, I5, q5⟩

/-! ### truth -/
/-- a value's truth by the abstract heap -/
def TruV (K : PySem.W.Frag) (x : V) (H : Hp) (k : Bool) : Prop :=
  match x with
  | .non => k = false
  | .bl b => k = b
  | .int i => k = (i != 0)
  | .str y => y.length ≤ sizeLine ∧ k = ((y.length : Int) != 0)
  | .byt y => y.size ≤ sizeLine ∧ k = ((y.size : Int) != 0)
  | .ref p => (∃ xs, SqL K H p xs ∧ k = !xs.isEmpty) ∨ (∃ xs, SqT K H p xs ∧ k = !xs.isEmpty) ∨ ∃ kvs, H p = some (.dK kvs) ∧ k = !kvs.isEmpty
  | _ => False
theorem isEmpty_kv {κ : Type} {kvs : List (κ × V)} {vs : List (κ × Value)} (r : KV kvs vs) : (!vs.isEmpty) = !kvs.isEmpty := by
  cases r <;> rfl
theorem isEmpty_of {xs : List V} {its : List Value} (r : Vals xs its) : (!its.toArray.isEmpty) = !xs.isEmpty := by
  cases r <;> simp
theorem line63 : (sizeLine : Nat) < 2 ^ 63 := by rw [sizeLine_eq]; decide
theorem tru_ok : TruR X (fun x H Q => ∃ k, TruV X.K x H k ∧ Q k H) := by
  intro pins s σ H x v Q I rx h
  obtain ⟨k, e, q⟩ := h
  have hl := line63
  have hs : sizeLine = 16777216 := sizeLine_eq
  cases x with
  | non =>
    cases rx
    have e' : k = false := e
    subst e'
    exact truthy_none ⟨H, I, q⟩
  | bl b =>
    cases rx
    have e' : k = b := e
    subst e'
    exact wpAny_truthy_bool ⟨H, I, q⟩
  | int i =>
    obtain ⟨t, rfl⟩ := rx
    have e' : k = (i != 0) := e
    subst e'
    exact PySem.P.truthy_int ⟨H, I, q⟩
  | str y =>
    obtain ⟨t, rfl⟩ := rx
    obtain ⟨hy, e'⟩ : y.length ≤ sizeLine ∧ k = ((y.length : Int) != 0) := e
    subst e'
    exact PySem.P.truthy_str (by omega) ⟨H, I.tok _, q⟩
  | byt y =>
    obtain ⟨t, rfl⟩ := rx
    obtain ⟨hy, e'⟩ : y.size ≤ sizeLine ∧ k = ((y.size : Int) != 0) := e
    subst e'
    exact PySem.W.truthy_bytes (by omega) ⟨H, I.tok _, q⟩
  | ref p =>
    cases rx
    have e' : (∃ xs, SqL X.K H p xs ∧ k = !xs.isEmpty) ∨ (∃ xs, SqT X.K H p xs ∧ k = !xs.isEmpty) ∨ ∃ kvs, H p = some (.dK kvs) ∧ k = !kvs.isEmpty := e
    rcases e' with ⟨xs, hx, e'⟩ | ⟨xs, hx, e'⟩ | ⟨kvs, hx, e'⟩
    · subst e'
      obtain ⟨its, r, pl, hz⟩ := I.list hx
      have hlen := r.length
      exact wpAny_truthy_list pl.isList (by simp only [List.size_toArray]; omega) ⟨H, I.tok _, by rw [isEmpty_of r]; exact q⟩
    · subst e'
      obtain ⟨its, r, pl, hz⟩ := I.tuple hx
      have hlen := r.length
      exact truthy_tuple pl (by simp only [List.size_toArray]; omega) ⟨H, I.tok _, by rw [isEmpty_of r]; exact q⟩
    · subst e'
      obtain ⟨hz, hS, vs, r, m⟩ : kvs.length ≤ sizeLine ∧ (p == sysModules) = false ∧ ∃ vs, KV kvs vs ∧ s.heap.DictOf (mixKind X.prog X.w) p vs := I.hok p _ hx
      have hlen : kvs.length = vs.length := Paired.length r
      exact wpAny_truthy_dict hS m (by omega) ⟨H, I.tok _, by rw [isEmpty_kv r]; exact q⟩
  | _ => exact (show False from e).elim
/-- any expression whose test is its value's truth (a name, a call, a subscript, a field ..: he by fun _ => rfl) -/
theorem pt_truth (ha : PE X a ta) (he : ∀ whole, isTrue a X.env whole = (do let v ← whole; standAt a.pos; holding [v] (truthy v))) :
    PT X a (fun σ H Q => ta σ H fun x H' => ∃ k, TruV X.K x H' k ∧ Q k H') := by
  intro pins s σ H Q I h
  exact isTrue_plain (thn (ha pins s σ H _ I h) fun v s1 ⟨x, H1, I1, r1, q1⟩ => tru_ok pins s1 σ H1 x v Q I1 r1 q1) (he _)

/-! ### strs and bytes -/
def PlainIxT (b : Expr) : Prop := ∀ o i, subscripted b false o i = operate [o, i] (getItem o i)
/-! ### scalar builtins, by CallR -/
theorem vals1 {x : V} {us : List Value} (r : Vals [x] us) : ∃ u, us = [u] ∧ RelV x u := by
  cases r with
  | cons r1 r2 => cases r2; exact ⟨_, rfl, r1⟩
theorem vals2 {x y : V} {us : List Value} (r : Vals [x, y] us) : ∃ u w', us = [u, w'] ∧ RelV x u ∧ RelV y w' := by
  cases r with
  | cons r1 r2 =>
    cases r2 with
    | cons r3 r4 => cases r4; exact ⟨_, _, rfl, r1, r3⟩
theorem call_abs : CallR X (.builtin "abs") (fun xs H Q => ∃ i, xs = [.int i] ∧ Q (.int (if i < 0 then -i else i)) H) := by
  intro pins s σ H xs us Q I r h
  obtain ⟨i, rfl, q⟩ := h
  obtain ⟨u, rfl, t, rfl⟩ := vals1 r
  exact call_abs_int fun u tk => ⟨.int (if i < 0 then -i else i), H, I.tok _, ⟨_, rfl⟩, q⟩
theorem call_max2 (hc : X.calm = true) : CallR X (.builtin "max") (fun xs H Q => ∃ i j, xs = [.int i, .int j] ∧ Q (.int (if j > i then j else i)) H) := by
  intro pins s σ H xs us Q I r h
  obtain ⟨i, j, rfl, q⟩ := h
  obtain ⟨u, w', rfl, ⟨t, rfl⟩, ⟨t', rfl⟩⟩ := vals2 r
  refine max_two_ints (I.ok.hd hc) fun h' tk k => ⟨_, H, I.kept k, ?_, q⟩
  by_cases hj : j > i
  · rw [if_pos hj, if_pos hj]; exact ⟨_, rfl⟩
  · rw [if_neg hj, if_neg hj]; exact ⟨_, rfl⟩
theorem call_min2 (hc : X.calm = true) : CallR X (.builtin "min") (fun xs H Q => ∃ i j, xs = [.int i, .int j] ∧ Q (.int (if j < i then j else i)) H) := by
  intro pins s σ H xs us Q I r h
  obtain ⟨i, j, rfl, q⟩ := h
  obtain ⟨u, w', rfl, ⟨t, rfl⟩, ⟨t', rfl⟩⟩ := vals2 r
  refine min_two_ints (I.ok.hd hc) fun h' tk k => ⟨_, H, I.kept k, ?_, q⟩
  by_cases hj : j < i
  · rw [if_pos hj, if_pos hj]; exact ⟨_, rfl⟩
  · rw [if_neg hj, if_neg hj]; exact ⟨_, rfl⟩
theorem call_int1 : CallR X (.type "int") (fun xs H Q => (∃ i, xs = [.int i] ∧ Q (.int i) H) ∨ ∃ k, xs = [.bl k] ∧ Q (.int (if k then 1 else 0)) H) := by
  intro pins s σ H xs us Q I r h
  rcases h with ⟨i, rfl, q⟩ | ⟨k, rfl, q⟩
  · obtain ⟨u, rfl, t, rfl⟩ := vals1 r
    exact call_int_int ⟨.int i, H, I, ⟨_, rfl⟩, q⟩
  · obtain ⟨u, rfl, r1⟩ := vals1 r
    cases r1
    exact call_int_bool ⟨.int (if k then 1 else 0), H, I.tok _, ⟨_, rfl⟩, q⟩
/-- len of a str, a bytes, a list, a tuple -/
def LenV (K : PySem.W.Frag) (x : V) (H : Hp) (n : Nat) : Prop :=
  match x with
  | .str y => y.length ≤ sizeLine ∧ n = y.length
  | .byt y => y.size ≤ sizeLine ∧ n = y.size
  | .ref p => (∃ xs, SqL K H p xs ∧ n = xs.length) ∨ ∃ xs, SqT K H p xs ∧ n = xs.length
  | _ => False
theorem call_len : CallR X (.builtin "len") (fun xs H Q => ∃ x n, xs = [x] ∧ LenV X.K x H n ∧ Q (.int n) H) := by
  intro pins s σ H xs us Q I r h
  obtain ⟨x, n, rfl, e, q⟩ := h
  obtain ⟨u, rfl, rx⟩ := vals1 r
  have hl := line63
  have hs : sizeLine = 16777216 := sizeLine_eq
  cases x with
  | str y =>
    obtain ⟨t, rfl⟩ := rx
    obtain ⟨hy, e'⟩ : y.length ≤ sizeLine ∧ n = y.length := e
    subst e'
    exact len_str (by omega) ⟨.int _, H, I.tok _, ⟨_, rfl⟩, q⟩
  | byt y =>
    obtain ⟨t, rfl⟩ := rx
    obtain ⟨hy, e'⟩ : y.size ≤ sizeLine ∧ n = y.size := e
    subst e'
    exact PySem.W.len_bytes (by omega) ⟨.int _, H, I.tok _, ⟨_, rfl⟩, q⟩
  | ref p =>
    cases rx
    have e' : (∃ xs, SqL X.K H p xs ∧ n = xs.length) ∨ ∃ xs, SqT X.K H p xs ∧ n = xs.length := e
    rcases e' with ⟨xs, hx, e'⟩ | ⟨xs, hx, e'⟩
    · subst e'
      obtain ⟨its, r', pl, hz⟩ := I.list hx
      have hlen := r'.length
      exact Calls.call_len_list pl.isList (by simp only [List.size_toArray]; omega) ⟨.int xs.length, H, I.tok _, ⟨_, by simp only [List.size_toArray]; rw [hlen]⟩, q⟩
    · subst e'
      obtain ⟨its, r', pl, hz⟩ := I.tuple hx
      have hlen := r'.length
      exact len_tuple pl (by simp only [List.size_toArray]; omega) ⟨.int xs.length, H, I.tok _, ⟨_, by simp only [List.size_toArray]; rw [hlen]⟩, q⟩
  | _ => exact (show False from e).elim
end
end L2

namespace L2
open PySem PySem.Spec PyProof.Rows

/-! ### an instance, its attributes a map -/
structure ObjM (h : Heap) (x dx C : Addr) (mA : Str → Option Value) : Prop where
  obj : h.get? x = some (PySem.W.instObj C dx)
  ns : h.Ns1 dx mA
  ne : dx ≠ x

theorem lookIn_ns {h : Heap} {dx : Addr} {mA : Str → Option Value} (n : h.Ns1 dx mA) : ∃ od, h.get? dx = some od ∧ ∀ name, PySem.W.lookIn name od = some (mA name) := by
  obtain ⟨o, es, ep, ho, hd, hk, _, hm⟩ := n
  refine ⟨o, ho, fun name => ?_⟩
  have e := hm name
  unfold nsFind findBy at e
  rw [← Array.find?_toList] at e
  unfold PySem.W.lookIn
  rw [hd]
  dsimp only
  split
  · rename_i y q
    rw [q] at e
    exact congrArg some e
  · rename_i q
    rw [q] at e
    have a : es.toList.any (·.refKey) = false := by
      rw [List.any_eq_false]
      intro y hy
      obtain ⟨z, t, hkey⟩ := hk y (Array.mem_toList_iff.mp hy)
      simp [DictEntry.refKey, hkey]
    have a' : ¬ es.toList.any (·.refKey) = true := by rw [a]; exact Bool.false_ne_true
    rw [if_neg a']
    exact congrArg some e

theorem ObjM.look {h : Heap} {x dx C : Addr} {mA : Str → Option Value} (I : ObjM h x dx C mA) : ∃ od, PySem.W.InstAt h x (PySem.W.instObj C dx) C (some od) ∧ ∀ name, PySem.W.lookIn name od = some (mA name) :=
  let ⟨od, ho, hl⟩ := lookIn_ns I.ns
  ⟨od, ⟨I.obj, rfl, rfl, ho⟩, hl⟩

section
variable {prog : Program} {w : World} {A : Around} {E : Value → Shared → Prop} {s : Shared} {K : PySem.W.Frag} {x dx C f : Addr} {mA : Str → Option Value} {name : Str} {v : Value}

end

/-! ### the attributes as a list of pairs -/
def putF (f : Str) (v : V) : List (Str × V) → List (Str × V)
  | [] => [(f, v)]
  | (g, x) :: r => if g = f then (g, v) :: r else (g, x) :: putF f v r
section
variable {P : Program} {w : World} {H H' : Hp} {h h' : Heap} {a C dx : Addr} {fs fs' : List (Str × V)}
theorem ins_get (hok : HOk P w H h) (e : H a = some (.ins C dx fs)) : ∃ mA, ObjM h a dx C mA ∧ (∀ f, RelO (fs.lookup f) (mA f)) ∧ PySem.Within mA (fs.map (·.1)) ∧ fs.length ≤ 1000 ∧ H dx = some (.own a) := by
  obtain ⟨d, z, ne, ob, mA, n, r, q⟩ := (show ObjOk P w H h a (.ins C dx fs) from hok a _ e)
  exact ⟨mA, ⟨ob, n, ne⟩, r, q, z, d⟩
end

/-! ### what of the text a class must have -/
structure Cls (K : PySem.W.Frag) (C : Addr) : Prop where
  pg : PySem.W.plainGet K C Str.empty = true
  hd : PySem.W.hasDictIn K C = true
  po : PySem.W.plainOver K C = true
  sa : PySem.W.findIn K (.ref C) "__setattr__" = some (some (.builtin "object.__setattr__"))
theorem Cls.get {K : PySem.W.Frag} {C : Addr} (c : Cls K C) (f : Str) : PySem.W.plainGet K C f = true := c.pg
/-- no class of it has the name -/
def NoAttr (K : PySem.W.Frag) (C : Addr) (f : Str) : Prop := PySem.W.findIn K (.ref C) f = some none
/-- a constant of the class -/
structure Con (K : PySem.W.Frag) (C : Addr) (f : Str) (v : V) (u : Value) : Prop where
  at_ : PySem.W.findIn K (.ref C) f = some (some u)
  rel : RelV v u
  get : PySem.W.specialIn K u "__get__" = some none
  cp : PySem.W.copiedNames.contains f = false
/-- a method: a plain def of the class or of one above it -/
structure Meth (K : PySem.W.Frag) (C : Addr) (m : Str) (f : Addr) : Prop where
  at_ : PySem.W.findIn K (.ref C) m = some (some (.ref f))
  fn : PySem.W.isFn K (.ref f) = true
  kp : PySem.W.keepIn K (.ref f) = true

section
variable {X : Cx} {pins : List (Addr × Obj)} {σ : St} {H : Hp} {s : Shared} {a C dx : Addr} {fs : List (Str × V)} {f : Str} {v : V} {A : Around} {E : Value → Shared → Prop}

end

/-! ### readings and rules -/
/-- e.f, an attribute of the instance -/
def tFld (K : PySem.W.Frag) (ta : TE) (f : Str) : TE := fun σ H Q => ta σ H fun x H1 => ∃ a C dx fs v, x = .ref a ∧ H1 a = some (.ins C dx fs) ∧ Cls K C ∧ NoAttr K C f ∧ fs.lookup f = some v ∧ Q v H1
/-- e.f, a constant of the class -/
def tCon (K : PySem.W.Frag) (ta : TE) (f : Str) : TE := fun σ H Q => ta σ H fun x H1 => ∃ a C dx fs v u, x = .ref a ∧ H1 a = some (.ins C dx fs) ∧ Cls K C ∧ Con K C f v u ∧ fs.lookup f = none ∧ Q v H1
/-- e.f = value -/
def sFld (K : PySem.W.Frag) (ta tv : TE) (f : Str) : TS := fun D σ H => tv σ H fun y H1 => ta σ H1 fun x H2 => ∃ a C dx fs, x = .ref a ∧ H2 a = some (.ins C dx fs) ∧ Cls K C ∧ NoAttr K C f ∧ fs.length < 1000 ∧
  D.nx σ (upd H2 a (.ins C dx (putF f y fs)))
/-- an augmented operator on two values -/
def InOp (X : Cx) (op : Operator) (rd : V → V → Hp → VK → Prop) : Prop :=
  ∀ (pins : List (Addr × Obj)) (s : Shared) (σ : St) (H : Hp) (x y : V) (u v : Value) (Q : VK), Inv X pins σ H s → RelV x u → RelV y v → rd x y H Q → wpAny (model X.prog X.w) X.A (inplaceOp op u v) (EP X pins σ Q) X.xe s
/-- e.f op= value -/
def sFldAug (K : PySem.W.Frag) (ta tv : TE) (rd : V → V → Hp → VK → Prop) (f : Str) : TS := fun D σ H => ta σ H fun x H1 => ∃ a C dx fs v, x = .ref a ∧ H1 a = some (.ins C dx fs) ∧ Cls K C ∧ NoAttr K C f ∧ fs.lookup f = some v ∧
  tv σ H1 fun y H2 => rd v y H2 fun z H3 => ∃ dx' fs', H3 a = some (.ins C dx' fs') ∧ fs'.length < 1000 ∧ D.nx σ (upd H3 a (.ins C dx' (putF f z fs')))

section
variable {X : Cx} {o e value : Expr} {f : Str} {pos pos' tpos : Pos} {ta tv : TE}
def rAdd : V → V → Hp → VK → Prop := fun x y H Q => ∃ i j, x = .int i ∧ y = .int j ∧ Q (.int (i + j)) H
def rSub : V → V → Hp → VK → Prop := fun x y H Q => ∃ i j, x = .int i ∧ y = .int j ∧ Q (.int (i - j)) H
end

/-! ### isinstance -/
section
variable {X : Cx} {pins : List (Addr × Obj)} {σ : St} {H : Hp} {s : Shared} {A : Around} {E : Value → Shared → Prop} {Q : Value → Shared → Prop} {c : Value} {b : Bool}
/-- the type of a value, as the fragment's deciders take it; for an instance its class -/
inductive TyOf (K : PySem.W.Frag) (H : Hp) : V → Value → Prop where
  | non : TyOf K H .non (.type "NoneType")
  | bl (x : Bool) : TyOf K H (.bl x) (.type "bool")
  | int (i : Int) : TyOf K H (.int i) (.type "int")
  | str (x : Str) : TyOf K H (.str x) (.type "str")
  | flt (x : UInt64) : TyOf K H (.flt x) (.type "float")
  | lst {a : Addr} {xs : List V} (e : H a = some (.lst xs)) : TyOf K H (.ref a) (.type "list")
  | frz {a : Addr} {o : Obj} {xs : List V} (e : H a = some (.frz o (.lst xs))) : TyOf K H (.ref a) (.type "list")
  | tup {a : Addr} {xs : List V} (e : H a = some (.tup xs)) : TyOf K H (.ref a) (.type "tuple")
  | dK {a : Addr} {kvs : List (Key × V)} (e : H a = some (.dK kvs)) : TyOf K H (.ref a) (.type "dict")
  | dT {a : Addr} {kvs : List (List Key × V)} (e : H a = some (.dT kvs)) : TyOf K H (.ref a) (.type "dict")
  | ins {a C dx : Addr} {fs : List (Str × V)} (e : H a = some (.ins C dx fs)) (cl : Cls K C) (ha : PySem.W.findIn K (.ref C) "__class__" = some (some (.builtin "object.__class__")))
      (hn : PySem.W.specialIn K (.builtin "object.__class__") "__get__" = some (some (.builtin "getset_descriptor.__get__"))) (htk : PySem.W.takesIn K (.builtin "object.__class__") = some true)
      (hm : PySem.W.mroIn K C (.type "object") = some true) : TyOf K H (.ref a) (.ref C)
/-- isinstance(x, c) for one class c, a built-in or an own one: kitOne's answer -/
theorem isinst_ok {x : V} {u t : Value} (I : Inv X pins σ H s) (rx : RelV x u) (ty : TyOf X.K H x t) (e : PySem.W.kitOne X.K t c = some b) (h : ∀ tk, Q (.bool b) { s with toks := tk }) :
    wpAny (model X.prog X.w) A (call (.builtin "isinstance") [u, c]) Q E s := by
  cases ty with
  | non => cases (show u = Value.none from rx); exact PySem.W.kia_one PySem.W.kitx_none I.kIn True.intro e (fun z => nomatch z) h
  | bl y => cases (show u = Value.bool y from rx); exact PySem.W.kia_one PySem.W.kitx_bool I.kIn True.intro e (fun z => nomatch z) h
  | int i => obtain ⟨t, q⟩ := (show ∃ t, u = Value.int i t from rx); cases q; exact PySem.W.kia_one PySem.W.kitx_int I.kIn True.intro e (fun z => nomatch z) h
  | str y => obtain ⟨t, q⟩ := (show ∃ t, u = Value.str y t from rx); cases q; exact PySem.W.kia_one PySem.W.kitx_str I.kIn True.intro e (fun z => nomatch z) h
  | flt y => obtain ⟨t, q⟩ := (show ∃ t, u = Value.float y t from rx); cases q; exact PySem.W.kia_one PySem.W.kitx_float I.kIn True.intro e (fun z => nomatch z) h
  | @lst a xs ea =>
    cases (show u = Value.ref a from rx)
    obtain ⟨_, _, n, _, h1⟩ := (show ObjOk X.prog X.w H s.heap a (.lst xs) from I.hok a _ ea)
    exact PySem.W.kia_one PySem.W.kitx_list I.kIn ⟨_, h1, rfl⟩ e (fun z => nomatch z) h
  | @frz a ob xs ea =>
    cases (show u = Value.ref a from rx)
    obtain ⟨_, _, _, n, _, h1⟩ := (show ObjOk X.prog X.w H s.heap a (.frz ob (.lst xs)) from I.hok a _ ea)
    exact PySem.W.kia_one PySem.W.kitx_list I.kIn ⟨_, h1, rfl⟩ e (fun z => nomatch z) h
  | @tup a xs ea =>
    cases (show u = Value.ref a from rx)
    obtain ⟨_, _, _, p⟩ := (show ObjOk X.prog X.w H s.heap a (.tup xs) from I.hok a _ ea)
    obtain ⟨o, h1, h2, _⟩ := p
    exact PySem.W.kia_one PySem.W.kitx_tuple I.kIn ⟨o, h1, h2⟩ e (fun z => nomatch z) h
  | @dK a kvs ea =>
    cases (show u = Value.ref a from rx)
    obtain ⟨_, _, vs, _, p⟩ := (show ObjOk X.prog X.w H s.heap a (.dK kvs) from I.hok a _ ea)
    obtain ⟨o, es, ep, h1, h2, _⟩ := p
    exact PySem.W.kia_one PySem.W.kitx_dict I.kIn ⟨o, h1, h2.1⟩ e (fun z => nomatch z) h
  | @dT a kvs ea =>
    cases (show u = Value.ref a from rx)
    obtain ⟨_, _, xs, _, o, es, ep, h1, h2, _⟩ := (show ObjOk X.prog X.w H s.heap a (.dT kvs) from I.hok a _ ea)
    exact PySem.W.kia_one PySem.W.kitx_dict I.kIn ⟨o, h1, h2.1⟩ e (fun z => nomatch z) h
  | @ins a C dx fs ea cl ha hn htk hm =>
    cases (show u = Value.ref a from rx)
    obtain ⟨mA, O, _⟩ := ins_get I.hok ea
    obtain ⟨od, J, _⟩ := O.look
    exact PySem.W.kia_one (PySem.W.kitx_own (cl.get _) cl.hd ha hn htk hm) I.kIn J e (fun z => nomatch z) h
end
end L2

namespace L2
open PySem PySem.Spec PyProof.Rows

/-! ### room -/
structure Room (k : Nat) (A : Around) : Prop where
  hd : A.handled = none
  dp : A.depth + 3 * k + 5 < recursionLimit
  un : A.units + 16 * k + 200 < cLine
theorem Room.mono {j k : Nat} {A : Around} (r : Room k A) (h : j ≤ k) : Room j A := ⟨r.hd, by have := r.dp; omega, by have := r.un; omega⟩
theorem Room.deeper {k : Nat} {A : Around} (r : Room (k + 1) A) (env : Env) : Room k (A.deeper env) :=
  ⟨r.hd, by have := r.dp; show A.depth + 1 + 3 * k + 5 < _; omega, by have := r.un; show A.units + 3 + 16 * k + 200 < _; omega⟩
theorem Room.depth {k : Nat} {A : Around} (r : Room k A) : A.depth < recursionLimit := by have := r.dp; omega
theorem Room.units {k : Nat} {A : Around} (r : Room k A) : A.units + 64 < cLine := by have := r.un; omega
/-! ### argument lists and displays -/
def tNil : TA := fun _ H Q => Q [] H
def tCons (ta : TE) (tr : TA) : TA := fun σ H Q => ta σ H fun x H1 => tr σ H1 fun xs H2 => Q (x :: xs) H2
section
variable {X : Cx} {e : Expr} {es : List Expr} {te : TE} {t : TA} {pos : Pos}
theorem pa_nil : PA X [] tNil := fun _ _ _ _ H Q I h => Calls.spliced_nil ⟨[], H, I, .nil, h⟩
theorem pa_cons (ha : PE X e te) (hr : PA X es t) (hs : starEach (e :: es) X.env = (false, eval e X.env) :: starEach es X.env := by rfl) : PA X (e :: es) (tCons te t) := by
  intro pos pins s σ H Q I h
  rw [hs]
  show wpAny _ _ (spliced ((false, eval e X.env) :: backTo pos (starEach es X.env))) _ _ s
  refine Calls.spliced_cons (thn (ha pins s σ H _ I h) fun u s1 ⟨x, H1, I1, r1, q1⟩ => ?_)
  exact thn (hr pos pins s1 σ H1 _ I1 q1) fun us s2 ⟨xs, H2, I2, r2, q2⟩ => ⟨x :: xs, H2, I2, .cons r1 r2, q2⟩

/-- a tuple, a list of written items -/
def tTup (t : TA) : TE := fun σ H Q => t σ H fun xs H1 => xs.length ≤ sizeLine ∧ ∀ p, H1 p = none → Q (.ref p) (upd H1 p (.tup xs))
def tLst (t : TA) : TE := fun σ H Q => t σ H fun xs H1 => xs.length ≤ sizeLine ∧ ∀ p, H1 p = none → Q (.ref p) (upd H1 p (.lst xs))
theorem pe_tup {x1} (h : PA X es t) : PE X (.Tuple es x1 pos) (tTup t) := by
  intro pins s σ H Q I hq
  refine wpAny_Tuple_spliced (thn (h pos pins s σ H _ I hq) fun us s1 ⟨xs, H1, I1, r, z, q⟩ => ⟨by rw [← r.length]; exact z, ?_⟩)
  have hf : H1 s1.heap.objs.size = none := I1.hok.fresh (Nat.le_refl _)
  refine ⟨.ref s1.heap.objs.size, upd H1 s1.heap.objs.size (.tup xs), I1.laid (t' := s1.toks) (fun b u e => Heap.get?_push_of_some _ e) (Nat.le_refl _) ?_, rfl, q _ hf⟩
  exact ⟨z, us, r, ⟨_, Heap.get?_push_size _ rfl, rfl, _, rfl⟩⟩
theorem pe_lst (h : PA X es t) : PE X (.List es pos) (tLst t) := by
  intro pins s σ H Q I hq
  refine wpAny_List_spliced (thn (h pos pins s σ H _ I hq) fun us s1 ⟨xs, H1, I1, r, z, q⟩ => ⟨by rw [← r.length]; exact z, ?_⟩)
  have hf : H1 s1.heap.objs.size = none := I1.hok.fresh (Nat.le_refl _)
  refine ⟨.ref s1.heap.objs.size, upd H1 s1.heap.objs.size (.lst xs), I1.laid (t' := s1.toks) (fun b u e => Heap.get?_push_of_some _ e) (Nat.le_refl _) ?_, rfl, q _ hf⟩
  exact ⟨z, us, 0, r, Heap.get?_push_size _ rfl⟩
end

/-! ### what a def promises -/
/-- a def's promise: the bound arguments in the parameters' order, the heap, the wanted end, the wanted exception -/
abbrev Sp := List V → Hp → VK → XK → Prop
/-- how an exception lies behind a call (file 08 gives it): the callers' frames, abstract heap and state ahead of the call, the wish, the exception, the state -/
abbrev CXT := List Env → Hp → Shared → XK → Value → Shared → Prop

/-- the state at a call -/
structure Env0 (P : Program) (w : World) (K : PySem.W.Frag) (mg : Str → Option Value) (base : Heap) (A : Around) (outer : List Env) (s : Shared) (H : Hp) : Prop where
  frames : A.frames = some outer
  mod : Mod K mg base
  bs : ∀ b o, base.get? b = some o → s.heap.get? b = some o ∧ H b = none
  bsz : base.objs.size ≤ s.heap.objs.size
  funs : s.heap.FunFrames base outer
  frf : ∀ b ∈ frs outer, H b = none
  hok : HOk P w H s.heap
  bare : AllBare s.gens
/-- a call's end -/
def CE (outer : List Env) (P : Program) (w : World) (H : Hp) (s : Shared) (Q : VK) (u : Value) (s' : Shared) : Prop :=
  ∃ v H', s'.os = s.os ∧ AllBare s'.gens ∧ Un (frs outer) [] H H' s.heap s'.heap ∧ HOk P w H' s'.heap ∧ RelV v u ∧ Q v H'
def CR (CX : CXT) (outer : List Env) (P : Program) (w : World) (H : Hp) (s : Shared) (Q : VK) (E : XK) (r : Result) (s' : Shared) : Prop :=
  match r with
  | .ok (.ret u) => CE outer P w H s Q u s'
  | .ok _ => False
  | .error e => CX outer H s E e s'
structure FnOk (P : Program) (w : World) (K : PySem.W.Frag) (mg : Str → Option Value) (base : Heap) (CX : CXT) (k : Nat) (f : Addr) (fd : FuncData) (ps : List Str) (sp : Sp) : Prop where
  len : ∀ vs H Q E, sp vs H Q E → vs.length = ps.length
  run : ∀ (A : Around) (outer : List Env) (s : Shared) (H : Hp) (args : Args) (us : List Value) (vs : List V) (Q : VK) (E : XK), Room k A → Env0 P w K mg base A outer s H → BindsTo s fd args (ps.zip us) → Vals vs us → sp vs H Q E →
    codeAny (model P w) A (.call (.ref f) args) (CR CX outer P w H s Q E) s
section
variable {X : Cx} {pins : List (Addr × Obj)} {σ : St} {H : Hp} {s s' : Shared}
/-- from a body: what a callee wants -/
theorem Inv.env0 (I : Inv X pins σ H s) : Env0 X.prog X.w X.K X.mg X.base X.A X.stack s H :=
  ⟨I.ok.frames, I.ok.mod, I.bs, Nat.le_trans I.ok.bsz I.sz, I.stack, I.stkFree, I.hok, I.bare⟩
/-- behind a call -/
theorem Inv.after {Q : VK} {u : Value} (I : Inv X pins σ H s) (h : CE X.stack X.prog X.w H s Q u s') : EP X pins σ Q u s' := by
  obtain ⟨v, H', os, bare, un, hok, r, q⟩ := h
  obtain ⟨hh, g, d, t, os'⟩ := s'
  obtain rfl : os' = s.os := os
  exact ⟨v, H', I.call (h' := hh) (g' := g) (d' := d) (t' := t) (ch := []) un hok bare (fun b z => absurd z (by simp)), r, q⟩
end

/-! ### calls -/
/-- f(..): the written arguments, then the defaults dvs; E: what is wanted of an exception -/
def tCall (sp : Sp) (dvs : List V) (E : XK) (t : TA) : TE := fun σ H Q => t σ H fun vs H1 => sp (vs ++ dvs) H1 Q E
/-- o.m(..) of an instance of the class at C -/
def tMeth (C : Addr) (m : Str) (sp : Sp) (dvs : List V) (E : XK) (ta : TE) (t : TA) : TE := fun σ H Q => ta σ H fun x H1 => ∃ a dx fs, x = .ref a ∧ H1 a = some (.ins C dx fs) ∧ fs.lookup m = none ∧
  t σ H1 fun vs H2 => sp (x :: (vs ++ dvs)) H2 Q E
/-- C(..): a new instance and its dict, then __init__ -/
def tMake (C : Addr) (sp : Sp) (dvs : List V) (E : XK) (t : TA) : TE := fun σ H Q => t σ H fun vs H1 => ∀ x dx, H1 x = none → H1 dx = none → dx ≠ x →
  sp (.ref x :: (vs ++ dvs)) (upd (upd H1 dx (.own x)) x (.ins C dx [])) (fun v H2 => v = .non ∧ Q (.ref x) H2) E

/-- how the parameters are bound: us the positional arguments, kw the keywords' values by name, ds the defaults that fill up -/
def Binds (K : PySem.W.Frag) (fd : FuncData) (ps : List Str) (ds : List Value) : Prop :=
  ∀ (s : Shared) (us : List Value), K.In s.heap → (us ++ ds).length = ps.length → BindsTo s fd ⟨us, []⟩ (ps.zip (us ++ ds))
/-- every parameter is given -/
theorem Binds.all {K : PySem.W.Frag} {fd : FuncData} {ps : List Str} (h : ∀ us : List Value, us.length = ps.length → bindArgs fd ⟨us, []⟩ = pure (ps.zip us)) : Binds K fd ps [] := fun s us _ hl => by
  rw [List.append_nil] at hl ⊢
  exact .of_eq (h us hl)

/-- an exception of a callee reaches what this body wants of exceptions -/
def Passes (CX : CXT) (X : Cx) (E : XK) : Prop := ∀ (pins : List (Addr × Obj)) (σ : St) (H : Hp) (s : Shared) (e : Value) (s' : Shared), Inv X pins σ H s → CX X.stack H s E e s' → X.xe e s'

section
variable {X : Cx} {CX : CXT} {k : Nat} {f C : Addr} {fd : FuncData} {ps : List Str} {sp : Sp} {dvs : List V} {ds : List Value} {E : XK} {x m : Str} {p pos apos : Pos} {e o : Expr} {es : List Expr} {ta : TE} {t : TA}

/-- the callee runs -/
theorem run_fn {pins : List (Addr × Obj)} {σ : St} {H : Hp} {s : Shared} {Q : VK} {us : List Value} {vs : List V} (F : FnOk X.prog X.w X.K X.mg X.base CX k f fd ps sp) (hr : Room k X.A) (hb : Binds X.K fd ps ds) (hd : Vals dvs ds) (hx : Passes CX X E)
    (I : Inv X pins σ H s) (r : Vals vs us) (h : sp (vs ++ dvs) H Q E) : wpAny (model X.prog X.w) X.A (call (.ref f) us) (EP X pins σ Q) X.xe s := by
  have r2 : Vals (vs ++ dvs) (us ++ ds) := r.append hd
  have hl : (us ++ ds).length = ps.length := by rw [← r2.length]; exact F.len _ _ _ _ h
  refine wpAny_call (codeAny_mono (F.run X.A X.stack s H ⟨us, []⟩ (us ++ ds) (vs ++ dvs) Q E hr I.env0 (hb s us I.kIn hl) r2 h) fun r s' hq => ?_)
  cases r with
  | error e => exact hx pins σ H s e s' I hq
  | ok fl =>
    cases fl with
    | ret u => exact I.after hq
    | next => exact False.elim hq
    | brk => exact False.elim hq
    | cont => exact False.elim hq

theorem pe_call (F : FnOk X.prog X.w X.K X.mg X.base CX k f fd ps sp) (hr : Room k X.A) (hg : Gl X x) (hm : X.mg x = some (.ref f)) (hk : PySem.W.keepIn X.K (.ref f) = true) (hb : Binds X.K fd ps ds) (hd : Vals dvs ds) (hx : Passes CX X E)
    (ha : PA X (e :: es) t) (hdb : (x == ("__debug__" : Str)) = false := by decide) (he : starEach (e :: es) X.env = (false, eval e X.env) :: starEach es X.env := by rfl) (hpl : (backTo pos (starEach es X.env)).any (·.1) = false := by rfl) :
    PE X (.Call (.Name x p) (e :: es) [] pos) (tCall sp dvs E t) := by
  intro pins s σ H Q I h
  refine wpAny_Call_Name_kw (ld_glob I hg hm ?_ hdb)
  refine PySem.W.callWith_K (h₀ := X.base) I.ok.mod.kin hk (thn (ha pos pins s σ H _ I h) fun us s1 ⟨vs, H1, I1, r, q⟩ => ⟨I1.kIn, ?_⟩) he hpl
  exact run_fn F hr hb hd hx I1 r q
/-- what a class must have to be made -/
structure Mk (K : PySem.W.Frag) (C f : Addr) : Prop where
  makes : PySem.W.makesIn K C = true
  init : PySem.W.findIn K (.ref C) "__init__" = some (some (.ref f))
  fn : PySem.W.isFn K (.ref f) = true
  kp : PySem.W.keepIn K (.ref C) = true

end

/-! ### keywords -/
/-- the values of the keywords, from the left -/
def PK (X : Cx) (kws : List Keyword) (t : TA) : Prop :=
  ∀ (pos : Pos) (pins : List (Addr × Obj)) (s : Shared) (σ : St) (H : Hp) (Q : List V → Hp → Prop), Inv X pins σ H s → t σ H Q → wpAny (model X.prog X.w) X.A (evalAll ((backToKw pos (keywordEach kws X.env)).map (·.2))) (AP X pins σ Q) X.xe s
section
variable {X : Cx} {CX : CXT} {k : Nat} {f C : Addr} {fd : FuncData} {ps ks : List Str} {sp : Sp} {E : XK} {x m : Str} {p pos apos kpos : Pos} {e o : Expr} {es : List Expr} {kws : List Keyword} {te ta : TE} {t tk : TA} {nm : Option Str}
/-- how a call with keywords binds: g puts the positional values us and the keywords' values ws (names ks) in the parameters' order, defaults among them -/
structure KBinds (K : PySem.W.Frag) (fd : FuncData) (ps ks : List Str) (g : List Value → List Value → List Value) (gV : List V → List V → List V) : Prop where
  to : ∀ (s : Shared) (us ws : List Value), K.In s.heap → (g us ws).length = ps.length → BindsTo s fd ⟨us, ks.zip ws⟩ (ps.zip (g us ws))
  rel : ∀ {vs : List V} {us : List Value} {zs : List V} {ws : List Value}, Vals vs us → Vals zs ws → Vals (gV vs zs) (g us ws)
def tCallK (sp : Sp) (gV : List V → List V → List V) (E : XK) (t tk : TA) : TE := fun σ H Q => t σ H fun vs H1 => tk σ H1 fun zs H2 => sp (gV vs zs) H2 Q E
variable {g : List Value → List Value → List Value} {gV : List V → List V → List V}
end

/-! ### a def's body keeps its promise -/
/-- names: the parameters first -/
structure FnScope (N P : List Str) (sc : Scope) : Prop where
  kind : sc.kind = .function
  co : sc.isCoroutine = false
  gen : sc.isGenerator = false
  nd : N.Nodup
  pre : N.take P.length = P
  par : ∀ x ∈ P, sc.names.lookup x = some .local ∨ sc.names.lookup x = some .cell
  nofree : ∀ y ∈ sc.names, y.2 ≠ .free

theorem bindL_out {kindOf : Str → Option NameKind} {x : Str} : ∀ {binds : List (Str × Value)} {m : Str → Option Value}, (∀ v, (x, v) ∉ binds) → bindL kindOf binds m x = m x
  | [], _, _ => rfl
  | (n, v) :: r, m, h => by
    unfold bindL
    rw [bindL_out fun w hw => h w (List.mem_cons_of_mem _ hw)]
    split
    · have : x ≠ n := by rintro rfl; exact h v List.mem_cons_self
      simp [this]
    · rfl
theorem bindC_out {kindOf : Str → Option NameKind} {x : Str} : ∀ {binds : List (Str × Value)} {m : Str → Option Value}, (∀ v, (x, v) ∉ binds) → bindC kindOf binds m x = m x
  | [], _, _ => rfl
  | (n, v) :: r, m, h => by
    unfold bindC
    rw [bindC_out fun w hw => h w (List.mem_cons_of_mem _ hw)]
    split
    · rfl
    · have : x ≠ n := by rintro rfl; exact h v List.mem_cons_self
      simp [this]
theorem bindL_get {kindOf : Str → Option NameKind} {x : Str} {v : Value} : ∀ {P : List Str} {vs : List Value} {i : Nat} {m : Str → Option Value}, P.Nodup → P[i]? = some x → vs[i]? = some v → kindOf x = some .local →
    bindL kindOf (P.zip vs) m x = some v
  | [], _, _, _, _, h, _, _ => by simp at h
  | _ :: _, [], _, _, _, _, h, _ => by simp at h
  | p :: P, w :: vs, 0, m, nd, h1, h2, hk => by
    simp at h1 h2; subst h1; subst h2
    show bindL kindOf ((p, w) :: P.zip vs) m p = _
    unfold bindL
    rw [bindL_out fun v hv => (List.nodup_cons.mp nd).1 (List.of_mem_zip hv).1, if_pos hk]
    simp
  | p :: P, w :: vs, i + 1, m, nd, h1, h2, hk => by
    show bindL kindOf ((p, w) :: P.zip vs) m x = _
    unfold bindL
    exact bindL_get (i := i) (List.nodup_cons.mp nd).2 (by simpa using h1) (by simpa using h2) hk
theorem bindC_get {kindOf : Str → Option NameKind} {x : Str} {v : Value} : ∀ {P : List Str} {vs : List Value} {i : Nat} {m : Str → Option Value}, P.Nodup → P[i]? = some x → vs[i]? = some v → kindOf x ≠ some .local →
    bindC kindOf (P.zip vs) m x = some v
  | [], _, _, _, _, h, _, _ => by simp at h
  | _ :: _, [], _, _, _, _, h, _ => by simp at h
  | p :: P, w :: vs, 0, m, nd, h1, h2, hk => by
    simp at h1 h2; subst h1; subst h2
    show bindC kindOf ((p, w) :: P.zip vs) m p = _
    unfold bindC
    rw [bindC_out fun v hv => (List.nodup_cons.mp nd).1 (List.of_mem_zip hv).1, if_neg hk]
    simp
  | p :: P, w :: vs, i + 1, m, nd, h1, h2, hk => by
    show bindC kindOf ((p, w) :: P.zip vs) m x = _
    unfold bindC
    exact bindC_get (i := i) (List.nodup_cons.mp nd).2 (by simpa using h1) (by simpa using h2) hk

/-- the names' values at the entry -/
def start (N : List Str) (vs : List V) : St := vs.map some ++ List.replicate (N.length - vs.length) none

/-- the context of a def's body, at its entry; an exception leaves the frame, then lies as CX says -/
def cxOf (CX : CXT) (P : Program) (w : World) (K : PySem.W.Frag) (mg : Str → Option Value) (base : Heap) (N : List Str) (qual : Str) (scope : Scope) (f : Addr) (cd : Value) (A : Around) (outer : List Env) (s : Shared) (H : Hp) (E : XK) : Cx where
  prog := P
  w := w
  K := K
  mg := mg
  base := base
  A := A.deeper (envOfC qual scope s.heap.objs.size f cd)
  N := N
  s₀ := s
  H₀ := H
  env := envOfC qual scope s.heap.objs.size f cd
  outer := outer
  stack := envOfC qual scope s.heap.objs.size f cd :: outer
  ex := []
  calm := true
  fn := fun _ => true
  pn := []
  xe := fun e s' => wpAny (model P w) (A.deeper (envOfC qual scope s.heap.objs.size f cd)) (leaving (envOfC qual scope s.heap.objs.size f cd) e) (fun _ s'' => CX outer H s E e s'') (fun e' s'' => CX outer H s E e' s'') s'

theorem cell_has {sc : Scope} {n : Nat} {x : Str} (h : sc.names.lookup x = some .cell) : ∃ c, (cellsFrom n sc.names []).lookup x = some c := by
  have q := PySem.W.cellsFrom_some sc.names n [] (.inl h)
  exact Option.isSome_iff_exists.mp q

theorem inv_start {CX : CXT} {P : Program} {w : World} {K : PySem.W.Frag} {mg : Str → Option Value} {base : Heap} {N ps : List Str} {qual : Str} {scope : Scope} {f : Addr} {cd : Value} {A : Around} {outer : List Env} {s s1 : Shared} {H : Hp} {E : XK} {us : List Value} {vs : List V}
    (S : FnScope N ps scope) (hd : A.handled = none) (e0 : Env0 P w K mg base A outer s H) (hl : vs.length = ps.length) (r : Vals vs us)
    (x : InCallC s s.heap.objs.size (bindL (envOfC qual scope s.heap.objs.size f cd).kindOf (ps.zip us) fun _ => none) (cellsFrom (s.heap.objs.size + 1) scope.names []) (bindC (envOfC qual scope s.heap.objs.size f cd).kindOf (ps.zip us) fun _ => none) s1) :
    Inv (cxOf CX P w K mg base N qual scope f cd A outer s H E) [] (start N vs) H s1 := by
  have hpl : ps.length ≤ N.length := by have := congrArg List.length S.pre; rw [List.length_take] at this; omega
  obtain ⟨h1, tk, rfl, hk⟩ := x.done
  have noA : ∀ b : Addr, b ∉ (cxOf CX P w K mg base N qual scope f cd A outer s H E).ex := fun b z => absurd (show b ∈ ([] : List Addr) from z) (by simp)
  refine ⟨⟨e0.mod, S.kind, rfl, rfl, Nat.le_refl _, fun y z c h1 h2 => ?_, fun y hy => ?_, fun y c _ h => ?_, fun _ => hd, Around.frames_deeper e0.frames, .inr ⟨rfl, rfl⟩, fun b z => absurd z (noA b), e0.bs, e0.bsz, fun b _ _ => noA b, fun b z => absurd z (noA b), e0.funs, e0.frf⟩,
    rfl, e0.bare, Un.kept hk, ⟨_, x.toInCall.ns, fun i y v h1 h2 h3 => ?_⟩, fun y c h => ⟨_, x.cell y c h⟩, e0.hok.fresh (Nat.le_refl _), fun y c h => ?_, fun p hp => absurd (show p ∈ ([] : List (Addr × Obj)) from hp) (by simp), e0.hok.kept hk, ?_⟩
  · exact name_of_addr x.apart (PySem.mem_of_lookup h1) (PySem.mem_of_lookup h2)
  · have hy : scope.names.lookup y = some .cell ∨ scope.names.lookup y = some .free := hy
    rcases hy with hy | hy
    · exact cell_has hy
    · exact absurd rfl (S.nofree _ (PySem.mem_of_lookup hy))
  · exact Nat.le_of_lt (x.above y c (PySem.mem_of_lookup h))
  · have hi : i < vs.length := by
      unfold start at h2
      by_cases hi : i < vs.length
      · exact hi
      · rw [List.getElem?_append_right (by simpa using hi)] at h2
        rw [List.getElem?_replicate] at h2
        split at h2 <;> cases h2
    have ha : vs[i]? = some v := by
      unfold start at h2
      rw [List.getElem?_append_left (by simpa using hi), List.getElem?_map] at h2
      cases e : vs[i]? with
      | none => rw [e] at h2; cases h2
      | some a => rw [e] at h2; cases h2; rfl
    obtain ⟨u, hu, rv⟩ := r.get ha
    have hp : ps[i]? = some y := by
      rw [← S.pre, List.getElem?_take_of_lt (by omega)]; exact h1
    have ndP : ps.Nodup := by rw [← S.pre]; exact S.nd.sublist (List.take_sublist _ _)
    refine ⟨u, rv, ?_⟩
    rcases S.par y (List.mem_of_getElem? hp) with k | k
    · exact .inl ⟨k, bindL_get ndP hp hu k⟩
    · obtain ⟨c, e⟩ := cell_has (n := s.heap.objs.size + 1) k
      refine .inr ⟨.inl k, c, e, ?_⟩
      have q := x.cell y c e
      rw [bindC_get ndP hp hu (by show scope.names.lookup y ≠ _; rw [k]; decide)] at q
      exact q
  · exact e0.hok.fresh (Nat.le_of_lt (x.above y c (PySem.mem_of_lookup h)))
  · unfold start
    show _ = N.length
    rw [List.length_append, List.length_map, List.length_replicate]
    omega

/-- THE RULE: a def (or a method) of the text, by its body. The body's reading t is chosen for each entry; it is run at the parameters' values -/
theorem fn_of {CX : CXT} {P : Program} {w : World} {K : PySem.W.Frag} {mg : Str → Option Value} {base : Heap} {k : Nat} {f : Addr} {name qual : Str} {params : Arguments} {body : List Stmt} {scope : Scope} {dV kV doc pm cdv ct oc : Value} {an od : Option Addr}
    {osl : Array (Option Value)} {N ps : List Str} {sp : Sp} (lk : K.lookup f = some ⟨oc, od, .func (PySem.W.fnOf name qual params body scope dV kV doc pm an cdv ct), osl⟩) (hcd : PySem.W.codeIn K cdv qual = true) (S : FnScope N ps scope)
    (len : ∀ vs H Q E, sp vs H Q E → vs.length = ps.length)
    (hbody : ∀ (A : Around) (outer : List Env) (s : Shared) (H : Hp) (vs : List V) (Q : VK) (E : XK), Room k (A.deeper (envOfC qual scope s.heap.objs.size f cdv)) → sp vs H Q E →
      ∃ t, PSs (cxOf CX P w K mg base N qual scope f cdv A outer s H E) body t ∧ t { nx := fun _ H' => Q .non H', rt := Q } (start N vs) H) :
    FnOk P w K mg base CX (k + 1) f (PySem.W.fnOf name qual params body scope dV kV doc pm an cdv ct) ps sp := by
  refine ⟨len, fun A outer s H args us vs Q E hr e0 hb r hsp => ?_⟩
  have hl := len _ _ _ _ hsp
  have KX : K.In s.heap := e0.mod.kin.keeps fun b o e => (e0.bs b o e).1
  have lim : s.heap.NoLimit := e0.mod.nolimit.keeps fun b o e => (e0.bs b o e).1
  have hkind : ∀ y ∈ ps.zip us, scope.names.lookup y.1 = some .local ∨ (scope.names.lookup y.1 = some .cell ∧ ((cellsFrom (s.heap.objs.size + 1) scope.names []).lookup y.1).isSome = true) := fun ⟨n, v⟩ hy => by
    rcases S.par n (List.of_mem_zip hy).1 with q | q
    · exact .inl q
    · exact .inr ⟨q, PySem.W.cellsFrom_some _ _ _ (.inl q)⟩
  refine codeAny_call_function hr.depth (KX _ _ lk) rfl S.co S.gen rfl (PySem.W.codeRec_of KX hcd) (hb _ _ _ _ ?_)
  refine wpAny_newFunctionEnv_cells S.kind hkind fun env he s1 x => ?_
  subst he
  refine ⟨lim.keeps x.toInCall.keep, codeAny_func ?_⟩
  obtain ⟨t, ht, hq⟩ := hbody A outer s H vs Q E (hr.deeper _) hsp
  have I : Inv (cxOf CX P w K mg base N qual scope f cdv A outer s H E) [] (start N vs) H s1 := inv_start S hr.hd e0 hl r x
  refine wpAny_mono (ht [] s1 (start N vs) H _ I hq) (fun fl s' hs => ?_) fun e s' hs => hs
  have fin : ∀ {σ' : St} {H' : Hp} {v : V} {u : Value}, Inv (cxOf CX P w K mg base N qual scope f cdv A outer s H E) [] σ' H' s' → RelV v u → Q v H' → CE outer P w H s Q u s' :=
    fun {σ' H' v u} J rv q => ⟨v, H', J.os, J.bare, J.base, J.hok, rv, q⟩
  cases fl with
  | ret u =>
    obtain ⟨v, σ', H', J, rv, q⟩ := hs
    exact fin J rv q
  | next =>
    obtain ⟨σ', H', J, q⟩ := hs
    exact fin (v := V.non) (u := Value.none) J rfl q
  | brk =>
    obtain ⟨_, _, _, q⟩ := hs
    exact False.elim q
  | cont =>
    obtain ⟨_, _, _, q⟩ := hs
    exact False.elim q
end L2

namespace L2
open PySem PySem.Spec PyProof.Rows
section
variable {X : Cx} {x : Str} {p pos : Pos} {e : Expr} {es : List Expr} {t : TA} {id T : String} {r : List V → Hp → VK → Prop}

def tCB (r : List V → Hp → VK → Prop) (t : TA) : TE := fun σ H Q => t σ H fun vs H1 => r vs H1 Q
/-- f(e, ..), f a built-in function -/
theorem pe_callB (hc : CallR X (.builtin id) r) (hg : Gl X x) (hm : X.mg x = none) (hv : bootBuiltins x = some (.builtin id)) (ha : PA X (e :: es) t) (hn : x ≠ "__name__" := by decide) (hdb : (x == ("__debug__" : Str)) = false := by decide)
    (he : starEach (e :: es) X.env = (false, eval e X.env) :: starEach es X.env := by rfl) (hpl : (backTo pos (starEach es X.env)).any (·.1) = false := by rfl) : PE X (.Call (.Name x p) (e :: es) [] pos) (tCB r t) := by
  intro pins s σ H Q I h
  refine wpAny_Call_Name_kw (ld_blt I hg hm hv ?_ hn hdb)
  exact PyProof.Rows.callWith_builtin1 (thn (ha pos pins s σ H _ I h) fun us s1 ⟨vs, H1, I1, r1, q1⟩ => hc pins s1 σ H1 vs us Q I1 r1 q1) he hpl
/-- T(e, ..), T a built-in type -/
theorem pe_callTy (hc : CallR X (.type T) r) (hg : Gl X x) (hm : X.mg x = none) (hv : bootBuiltins x = some (.type T)) (ha : PA X (e :: es) t) (hn : x ≠ "__name__" := by decide) (hdb : (x == ("__debug__" : Str)) = false := by decide)
    (he : starEach (e :: es) X.env = (false, eval e X.env) :: starEach es X.env := by rfl) (hpl : (backTo pos (starEach es X.env)).any (·.1) = false := by rfl) : PE X (.Call (.Name x p) (e :: es) [] pos) (tCB r t) := by
  intro pins s σ H Q I h
  refine wpAny_Call_Name_kw (ld_blt I hg hm hv ?_ hn hdb)
  exact PyProof.Rows.callWith_type1 (thn (ha pos pins s σ H _ I h) fun us s1 ⟨vs, H1, I1, r1, q1⟩ => hc pins s1 σ H1 vs us Q I1 r1 q1) he hpl
end
end L2

namespace HT
open PySem PyProof.Rows

/-- t < u of tuples of ints -/
def lexLt : List Int → List Int → Bool
  | [], [] => false
  | [], _ :: _ => true
  | _ :: _, [] => false
  | x :: xs, y :: ys => if x = y then lexLt xs ys else decide (x < y)
section
open PySem.SeqAt
open PySem.AutoSeq1 (wpAny_loadPart')
open PySem.MeetsSeq PySem.MeetsSeq2 PySem.MeetsSeq3

end

section
variable {prog : Program} {w : World} {A : Around} {E : Value → Shared → Prop} {s : Shared}

/-! ### t[a:b], not the whole -/
/-- a slice's bound as a place among n (d where it is left out) -/
def sIx (n d : Nat) : Option Int → Nat
  | none => d
  | some v => if v < 0 then (v + (n : Int)).toNat else min v.toNat n
theorem sIx_none (n d : Nat) : sIx n d none = d := rfl
theorem sIx_nat (n d k : Nat) : sIx n d (some (k : Int)) = min k n := by
  show (if (k : Int) < 0 then ((k : Int) + (n : Int)).toNat else min (k : Int).toNat n) = min k n
  rw [if_neg (by omega), Int.toNat_natCast]
end
end HT

namespace L2
open PySem PySem.Spec PyProof.Rows

/-! ### the parts of a slice -/
abbrev TO := St → Hp → (Option Int → Hp → Prop) → Prop
/-- a slice's part (left out, or an int) -/
def PO (X : Cx) (e : Option Expr) (t : TO) : Prop :=
  ∀ (pins : List (Addr × Obj)) (s : Shared) (σ : St) (H : Hp) (Q : Option Int → Hp → Prop), Inv X pins σ H s → t σ H Q →
    wpAny (model X.prog X.w) X.A (evalPart e X.env) (fun u s' => ∃ o H', Inv X pins σ H' s' ∧ IsPart u o ∧ Q o H') X.xe s
def tNoPart : TO := fun _ H Q => Q none H
def tPart (t : TE) : TO := fun σ H Q => t σ H fun x H1 => ∃ i, x = .int i ∧ Q (some i) H1

theorem intsAre_of {ns : List Int} : ∀ {us : List Value}, Vals (ns.map V.int) us → IntsAre us ns := by
  induction ns with
  | nil => intro us r; rw [List.map_nil] at r; cases r; exact .nil
  | cons n ns ih =>
    intro us r
    rw [List.map_cons] at r
    cases r with
    | cons r1 r2 =>
      obtain ⟨t, e⟩ := r1
      subst e
      exact .cons n t (ih r2)

section
variable {X : Cx} {e : Expr} {te : TE} {lo hi : Option Expr} {tl th : TO} {pos p2 : Pos}

theorem po_none : PO X none tNoPart := by
  intro pins s σ H Q I h
  rw [evalPart_none]
  exact wpAny_pure ⟨none, H, I, .none, h⟩
theorem po_some (h : PE X e te) : PO X (some e) (tPart te) := by
  intro pins s σ H Q I hw
  rw [evalPart_some]
  refine thn (h pins s σ H _ I hw) fun u s1 ⟨x, H1, I1, r1, q1⟩ => ?_
  obtain ⟨i, rfl, q⟩ := q1
  obtain ⟨t, rfl⟩ := r1
  exact ⟨some i, H1, I1, .int i t, q⟩

/-- what a slice of a value is, by values: the slice object stands at sl -/
def SlR (X : Cx) (r : V → Option Int → Option Int → Hp → VK → Prop) : Prop :=
  ∀ (pins : List (Addr × Obj)) (s : Shared) (σ : St) (H : Hp) (x : V) (v vl vu : Value) (lo hi : Option Int) (sl : Addr) (Q : VK), Inv X pins σ H s → RelV x v → s.heap.IsSliceOf sl vl vu .none → IsPart vl lo → IsPart vu hi → r x lo hi H Q →
    ∃ T id, typeLookup (.type T) "__getitem__" = pure (some (.builtin id)) ∧ s.TypeIs v T ∧ wpAny (model X.prog X.w) X.A (getItem v (.ref sl)) (EP X pins σ Q) X.xe s
def tSl (r : V → Option Int → Option Int → Hp → VK → Prop) (te : TE) (tl th : TO) : TE := fun σ H Q => te σ H fun x H1 => tl σ H1 fun l H2 => th σ H2 fun u H3 => r x l u H3 Q
/-- a[lo:hi], any a -/
theorem pe_slice {r : V → Option Int → Option Int → Hp → VK → Prop} (hr : SlR X r) (he : PE X e te) (hl : PO X lo tl) (hu : PO X hi th) : PE X (.Subscript e (.Slice lo hi none p2) pos) (tSl r te tl th) := by
  intro pins s σ H Q I h
  refine Subscript_ (thn (he pins s σ H _ I h) fun v s1 ⟨x, H1, I1, r1, q1⟩ => ?_)
  refine wpAny_Slice (thn (hl pins s1 σ H1 _ I1 q1) fun vl s2 ⟨l, H2, I2, pl, q2⟩ => thn (hu pins s2 σ H2 _ I2 q2) fun vu s3 ⟨u, H3, I3, pu, q3⟩ => ?_)
  rw [evalPart_none]
  refine wpAny_pure ?_
  have I4 : Inv X pins σ H3 { s3 with heap := s3.heap.push { cls := .type "slice", data := .fields #[vl, vu, .none] } } := I3.kept (t' := s3.toks) fun b ob q => Heap.get?_push_of_some _ q
  obtain ⟨T, id, hT, ht, hg⟩ := hr pins { s3 with heap := s3.heap.push { cls := .type "slice", data := .fields #[vl, vu, .none] } } σ H3 x v vl vu l u s3.heap.objs.size Q I4 r1 (Heap.IsSliceOf.new ..) pl pu q3
  show wpAny (model X.prog X.w) X.A (subscriptTail e (.Slice lo hi none p2) v (.ref s3.heap.objs.size)) (EP X pins σ Q) X.xe { s3 with heap := s3.heap.push { cls := .type "slice", data := .fields #[vl, vu, .none] } }
  exact tail_any (ops := [.ref s3.heap.objs.size, v]) ht hT hg (by with_unfolding_all rfl)

/-- the items of xs[lo:hi] -/
def cutV (xs : List V) (lo hi : Option Int) : List V := (xs.drop (HT.sIx xs.length 0 lo)).take (HT.sIx xs.length xs.length hi - HT.sIx xs.length 0 lo)
theorem cutV_length (xs : List V) (lo hi : Option Int) : (cutV xs lo hi).length ≤ xs.length := by
  unfold cutV
  rw [List.length_take, List.length_drop]
  omega
/-- t[lo:hi], not the whole of it (the whole would be t itself) -/
def rSlT (K : PySem.W.Frag) : V → Option Int → Option Int → Hp → VK → Prop := fun x lo hi H Q => ∃ a xs, x = .ref a ∧ SqT K H a xs ∧
  ¬ (HT.sIx xs.length 0 lo = 0 ∧ HT.sIx xs.length xs.length hi = xs.length) ∧ ∀ p, H p = none → Q (.ref p) (upd H p (.tup (cutV xs lo hi)))
/-! ### t < u, t + u -/
def rLtT (K : PySem.W.Frag) : R2 := fun x y H Q => ∃ a b ns ms, x = .ref a ∧ y = .ref b ∧ SqT K H a (ns.map V.int) ∧ SqT K H b (ms.map V.int) ∧ Q (.bl (HT.lexLt ns ms)) H
/-- t + u, t not empty: u empty gives t itself -/
def rCatT (K : PySem.W.Frag) : R2 := fun x y H Q => ∃ a b xs ys, x = .ref a ∧ y = .ref b ∧ SqT K H a xs ∧ SqT K H b ys ∧ xs ≠ [] ∧ xs.length + ys.length ≤ sizeLine ∧
  (ys = [] → Q (.ref a) H) ∧ (ys ≠ [] → ∀ p, H p = none → Q (.ref p) (upd H p (.tup (xs ++ ys))))
end
end L2

namespace L2
open PySem PySem.Spec PyProof.Rows

/-! ### places -/
/-- the place that an index of any sign means -/
def ixN (n : Nat) (i : Int) : Option Nat := if 0 ≤ i then (if i < n then some i.toNat else none) else if -(n : Int) ≤ i then some (i + n).toNat else none
def atI {α : Type} (xs : List α) (i : Int) : Option α := (ixN xs.length i).bind fun j => xs[j]?
theorem ixN_seq {n : Nat} {i : Int} {j : Nat} (h : ixN n i = some j) : seqIndex? i n = some j ∧ j < n ∧ -(n : Int) ≤ i ∧ i < n := by
  unfold ixN at h
  by_cases h0 : 0 ≤ i
  · rw [if_pos h0] at h
    by_cases h1 : i < n
    · rw [if_pos h1] at h
      have e : i.toNat = j := Option.some.inj h
      exact ⟨by rw [seqIndex_of h0 h1, e], by omega, by omega, h1⟩
    · rw [if_neg h1] at h; cases h
  · rw [if_neg h0] at h
    by_cases h1 : -(n : Int) ≤ i
    · rw [if_pos h1] at h
      have e : (i + n).toNat = j := Option.some.inj h
      exact ⟨by rw [seqIndex_neg (by omega) h1, e], by omega, h1, by omega⟩
    · rw [if_neg h1] at h; cases h
theorem atI_get {α : Type} {xs : List α} {i : Int} {v : α} (h : atI xs i = some v) : ∃ j, seqIndex? i xs.length = some j ∧ xs[j]? = some v ∧ j < xs.length ∧ -(xs.length : Int) ≤ i ∧ i < xs.length := by
  unfold atI at h
  cases e : ixN xs.length i with
  | none => rw [e] at h; cases h
  | some j =>
    rw [e] at h
    obtain ⟨h1, h2, h3, h4⟩ := ixN_seq e
    exact ⟨j, h1, h, h2, h3, h4⟩
theorem atI_nat {α : Type} {xs : List α} {j : Nat} {v : α} (h : xs[j]? = some v) : atI xs (j : Int) = some v := by
  have hj : j < xs.length := (List.getElem?_eq_some_iff.mp h).1
  have e : ixN xs.length (j : Int) = some j := by
    unfold ixN
    rw [if_pos (by omega), if_pos (by omega)]; simp
  unfold atI; rw [e]; exact h
/-! ### what may be subscripted -/
/-- what stands as an index of a plain subscript -/
def PlainIx (b : Expr) : Prop := ∀ o i, subscripted b false o i = operate [o, i] (getItem o i)
/-- a subscript by values -/
def IxR (X : Cx) (r : R2) : Prop :=
  ∀ (value slice : Expr) (pins : List (Addr × Obj)) (s : Shared) (σ : St) (H : Hp) (x y : V) (v u : Value) (Q : VK), Inv X pins σ H s → RelV x v → RelV y u → r x y H Q →
    subscripted slice false v u = operate [v, u] (getItem v u) → wpAny (model X.prog X.w) X.A (subscriptTail value slice v u) (EP X pins σ Q) X.xe s
/-- a call of a builtin's method by values: the receiver, the arguments -/
def MtR (X : Cx) (id : String) (r : V → List V → Hp → VK → Prop) : Prop :=
  ∀ (pins : List (Addr × Obj)) (s : Shared) (σ : St) (H : Hp) (x : V) (xs : List V) (v : Value) (us : List Value) (Q : VK), Inv X pins σ H s → RelV x v → Vals xs us → r x xs H Q →
    wpAny (model X.prog X.w) X.A (call (.builtin id) (v :: us)) (EP X pins σ Q) X.xe s
section
variable {X : Cx} {a b : Expr} {ta tb : TE} {pos : Pos}
theorem IxR.or {r r' : R2} (h : IxR X r) (h' : IxR X r') : IxR X (fun x y H Q => r x y H Q ∨ r' x y H Q) := by
  intro value slice pins s σ H x y v u Q I rx ry q hs
  rcases q with q | q
  · exact h value slice pins s σ H x y v u Q I rx ry q hs
  · exact h' value slice pins s σ H x y v u Q I rx ry q hs
/-- a[b] -/
theorem pe_ix {r : R2} (hr : IxR X r) (ha : PE X a ta) (hb : PE X b tb) (hs : PlainIx b) : PE X (.Subscript a b pos) (tOp r ta tb) := by
  intro pins s σ H Q I h
  exact Subscript_ (binT ha hb I h fun v u s2 x y H2 I2 rx ry q => hr a b pins s2 σ H2 x y v u Q I2 rx ry q (hs _ _))

def rIxL (K : PySem.W.Frag) : R2 := fun x y H Q => ∃ p xs i v, x = .ref p ∧ y = .int i ∧ SqL K H p xs ∧ atI xs i = some v ∧ Q v H
def rIxT (K : PySem.W.Frag) : R2 := fun x y H Q => ∃ p xs i v, x = .ref p ∧ y = .int i ∧ SqT K H p xs ∧ atI xs i = some v ∧ Q v H
def rIxS : R2 := fun x y H Q => ∃ z i c, x = .str z ∧ y = .int i ∧ z.length ≤ sizeLine ∧ atI z.cps.toList i = some c ∧ Q (.str ⟨#[c]⟩) H
theorem ix_list : IxR X (rIxL X.K) := by
  intro value slice pins s σ H x y v u Q I rx ry h hs
  obtain ⟨p, xs, i, z, rfl, rfl, hq, he, q⟩ := h
  cases rx
  obtain ⟨t, rfl⟩ := ry
  obtain ⟨its, r, pl, hz⟩ := I.list hq
  obtain ⟨j, h1, h2, h3, h4, h5⟩ := atI_get he
  obtain ⟨w, ew, rw'⟩ := r.get h2
  have hl := r.length
  have hn := line63
  have fin : EP X pins σ Q w s := ⟨z, H, I, rw', q⟩
  by_cases h0 : 0 ≤ i
  · have hj : i.toNat = j := by
      rw [seqIndex_of h0 h5] at h1
      exact Option.some.inj h1
    exact item_listR pl.isList h0 (by omega) (by rw [hj]; simpa using ew) fin hs
  · have hj : (i + (its.toArray.size : Int)).toNat = j := by
      rw [seqIndex_neg (by omega) h4] at h1
      rw [List.size_toArray, ← hl]
      exact Option.some.inj h1
    exact subscriptTail_builtinR (x := w) pl.isList.typeIs slot_list_getitem.lookup
      (wpAny_getItem_list_neg (Q := fun r s' => r = w ∧ EP X pins σ Q r s') pl.isList (by omega) (by rw [List.size_toArray] <;> omega) (by omega) (by rw [hj]; simpa using ew) ⟨rfl, fin⟩) hs
theorem ix_tup : IxR X (rIxT X.K) := by
  intro value slice pins s σ H x y v u Q I rx ry h hs
  obtain ⟨p, xs, i, z, rfl, rfl, hq, he, q⟩ := h
  cases rx
  obtain ⟨t, rfl⟩ := ry
  obtain ⟨its, r, pl, hz⟩ := I.tuple hq
  obtain ⟨j, h1, h2, h3, h4, h5⟩ := atI_get he
  obtain ⟨w, ew, rw'⟩ := r.get h2
  have hl := r.length
  have hn := line63
  have fin : EP X pins σ Q w s := ⟨z, H, I, rw', q⟩
  exact subscriptTail_builtinR (x := w) pl.typeIs slot_tuple_getitem.lookup
    (getItem_tuple (j := j) (Q := fun r s' => r = w ∧ EP X pins σ Q r s') pl (by omega) (by omega) (by rw [List.size_toArray, ← hl]; exact h1) (by simpa using ew) ⟨rfl, fin⟩) hs
/-- list, tuple or str -/
def rIx (K : PySem.W.Frag) : R2 := fun x y H Q => rIxL K x y H Q ∨ rIxT K x y H Q ∨ rIxS x y H Q
/-! ### xs[i] = v, any sign -/
/-- the list's object behind a store -/
theorem mapSeq_set (its : List Value) (n j : Nat) (u : Value) : Obj.mapSeq (·.setIfInBounds j u) { cls := .type "list", data := .seq its.toArray n } = { cls := .type "list", data := .seq (its.set j u).toArray n } := by
  simp [Obj.mapSeq]
theorem Inv.lst {pins : List (Addr × Obj)} {σ : St} {H : Hp} {s : Shared} {p : Addr} {xs : List V} (I : Inv X pins σ H s) (h : H p = some (.lst xs)) :
    ∃ (its : List Value) (n : Nat), Vals xs its ∧ s.heap.get? p = some { cls := .type "list", data := .seq its.toArray n } ∧ xs.length ≤ sizeLine := by
  obtain ⟨z, its, n, r, e⟩ := I.hok p _ h
  exact ⟨its, n, r, e, z⟩
/-- the list at p is written by an update of its object -/
theorem Inv.lstUpd {pins : List (Addr × Obj)} {σ : St} {H : Hp} {s : Shared} {p : Addr} {xs ys : List V} {its its' : List Value} {n n' : Nat} {f : Obj → Obj} (I : Inv X pins σ H s) (h : H p = some (.lst xs))
    (ho : s.heap.get? p = some { cls := .type "list", data := .seq its.toArray n }) (hf : f { cls := .type "list", data := .seq its.toArray n } = { cls := .type "list", data := .seq its'.toArray n' }) (r : Vals ys its') (hz : ys.length ≤ sizeLine) (t : Nat) :
    Inv X pins σ (upd H p (.lst ys)) { s with heap := s.heap.update p f, toks := t } := by
  have e : (s.heap.update p f).get? p = some { cls := .type "list", data := .seq its'.toArray n' } := by
    rw [Heap.get?_update_self f ho (by rw [hf] <;> rfl), hf]
  refine I.write (x := p) (e := p) (by rw [h]; trivial) (.inl rfl) (fun b u hb q => (Heap.get?_update_other _ _ (Ne.symm hb)).trans q) ⟨_, e⟩ ?_
  exact ⟨hz, its', n', r, e⟩
def rSetL : V → V → V → Hp → (Hp → Prop) → Prop := fun o i v H Q => ∃ p xs k j, o = .ref p ∧ i = .int k ∧ H p = some (.lst xs) ∧ ixN xs.length k = some j ∧ Q (upd H p (.lst (xs.set j v)))
theorem set_list : PSet X rSetL := by
  intro pins s σ H o i v ov iv u Q I ro ri rv h
  obtain ⟨p, xs, k, j, rfl, rfl, hp, hj, q⟩ := h
  cases ro
  obtain ⟨t, rfl⟩ := ri
  obtain ⟨its, n, r, ho, hz⟩ := I.lst hp
  obtain ⟨h1, h2, h3, h4⟩ := ixN_seq hj
  have hl := r.length
  have hn := line63
  have I' : Inv X pins σ (upd H p (.lst (xs.set j v))) { s with heap := s.heap.update p (Obj.mapSeq (·.setIfInBounds j u)) } :=
    I.lstUpd hp ho (mapSeq_set its n j u) (r.set rv j) (by rw [List.length_set]; exact hz) s.toks
  by_cases h0 : 0 ≤ k
  · have hk : k.toNat = j := by
      rw [seqIndex_of h0 h4] at h1
      exact Option.some.inj h1
    exact PySem.W.ki_setAt ho h0 (by omega) (by rw [List.size_toArray, ← hl]; exact h4) (by rw [hk]; exact ⟨_, I', q⟩)
  · have hk : (k + (its.toArray.size : Int)).toNat = j := by
      rw [seqIndex_neg (by omega) h3] at h1
      rw [List.size_toArray, ← hl]
      exact Option.some.inj h1
    exact PySem.W.ki_setBack ho (by omega) (by rw [List.size_toArray, ← hl]; exact h3) (by omega) (by rw [hk]; exact ⟨_, I', q⟩)

/-! ### slices -/
theorem slice_bounds (lo hi : Option Int) (n : Nat) : (sliceBounds lo hi none n).1 = ((HT.sIx n 0 lo : Nat) : Int) ∧ (sliceBounds lo hi none n).2.1 = ((HT.sIx n n hi : Nat) : Int) ∧ (sliceBounds lo hi none n).2.2 = 1 := by
  refine ⟨?_, ?_, rfl⟩
  · cases lo with
    | none => simp [sliceBounds, HT.sIx]
    | some i =>
      simp only [sliceBounds, HT.sIx, Option.getD_none, show (1 : Int) > 0 by decide, if_true]
      by_cases h : i < 0
      · simp only [h, if_true] <;> omega
      · simp only [h, if_false] <;> omega
  · cases hi with
    | none => simp [sliceBounds, HT.sIx]
    | some i =>
      simp only [sliceBounds, HT.sIx, Option.getD_none, show (1 : Int) > 0 by decide, if_true]
      by_cases h : i < 0
      · simp only [h, if_true] <;> omega
      · simp only [h, if_false] <;> omega
theorem slicePick_cut (its : List Value) (lo hi : Option Int) : slicePick its.toArray lo hi none = ((its.drop (HT.sIx its.length 0 lo)).take (HT.sIx its.length its.length hi - HT.sIx its.length 0 lo)).toArray := by
  obtain ⟨h1, h2, h3⟩ := slice_bounds lo hi its.toArray.size
  unfold slicePick
  rw [h1, h2, h3]
  simp only [sliceRange_one, pick_run, List.size_toArray] <;> rfl
/-- xs[lo:hi] of a list: a new list -/
def rSlL (K : PySem.W.Frag) : V → Option Int → Option Int → Hp → VK → Prop := fun x lo hi H Q => ∃ a xs, x = .ref a ∧ SqL K H a xs ∧ ∀ p, H p = none → Q (.ref p) (upd H p (.lst (cutV xs lo hi)))
theorem sl_list : SlR X (rSlL X.K) := by
  intro pins s σ H x v vl vu lo hi sl Q I rx hs pl pu h
  obtain ⟨a, xs, rfl, hx, q⟩ := h
  cases rx
  obtain ⟨its, r, ht, hz⟩ := I.list hx
  have hlen := r.length
  refine ⟨"list", _, slot_list_getitem.lookup, ht.isList.typeIs, ?_⟩
  refine wpAny_getItem_list_slice ht.isList hs pl pu .none (by simp) ?_ (by rw [List.size_toArray] <;> omega)
  rw [slicePick_cut, ← hlen]
  refine ⟨.ref s.heap.objs.size, _, I.laid (t' := s.toks) (o := .lst (cutV xs lo hi)) (fun b ob q => Heap.get?_push_of_some _ q) (Nat.le_refl _) ?_, rfl, q _ (I.hok.fresh (Nat.le_refl _))⟩
  exact ⟨Nat.le_trans (cutV_length xs lo hi) hz, _, 0, (r.drop (HT.sIx xs.length 0 lo)).take (HT.sIx xs.length xs.length hi - HT.sIx xs.length 0 lo), Heap.get?_push_size _ rfl⟩

/-! ### in, not in: flat items -/
def flatV : V → Bool
  | .non => true
  | .bl _ => true
  | .int _ => true
  | .str _ => true
  | _ => false
/-- == of flat values -/
def eqV : V → V → Bool
  | .non, .non => true
  | .bl a, .bl b => a == b
  | .bl a, .int b => (if a then 1 else 0) == b
  | .int a, .bl b => a == (if b then 1 else 0)
  | .int a, .int b => a == b
  | .str a, .str b => a == b
  | _, _ => false
/-- the items' answers, read off the values (a value's own answer does not lean on its token) -/
def eqU (x : V) (u : Value) : Bool := match u with
  | .none => eqV .non x
  | .bool b => eqV (.bl b) x
  | .int i _ => eqV (.int i) x
  | .str z _ => eqV (.str z) x
  | _ => false
def inV (x : V) (xs : List V) : Bool := xs.any fun y => eqV y x
/-- x in a list or tuple of flat items -/
def rIn (K : PySem.W.Frag) (neg : Bool) : R2 := fun x y H Q => ∃ p xs, y = .ref p ∧ (SqL K H p xs ∨ SqT K H p xs) ∧ flatV x = true ∧ xs.all flatV = true ∧ Q (.bl (if neg then !inV x xs else inV x xs)) H
/-! ### len, list(x), tuple(x) of any list or tuple that is read -/
theorem call_list_of : CallR X (.type "list") (fun xs H Q => ∃ p ys, xs = [.ref p] ∧ (SqL X.K H p ys ∨ SqT X.K H p ys) ∧ ∀ l, H l = none → Q (.ref l) (upd H l (.lst ys))) := by
  intro pins s σ H xs us Q I r h
  obtain ⟨p, ys, rfl, hq, q⟩ := h
  obtain ⟨u, rfl, rx⟩ := vals1 r
  cases rx
  have fin : ∀ (its : List Value), Vals ys its → ys.length ≤ sizeLine → ∀ (h' : Heap) (c' : Nat), (∀ b o', s.heap.get? b = some o' → h'.get? b = some o') →
      h'.get? s.heap.objs.size = some { cls := .type "list", dict := none, data := .seq its.toArray c', slots := #[] } → EP X pins σ Q (.ref s.heap.objs.size) { s with heap := h' } := fun its r' hz h' c' kp e =>
    ⟨.ref s.heap.objs.size, _, I.laid (t' := s.toks) kp (Nat.le_refl _) (show ObjOk X.prog X.w _ h' _ (.lst ys) from ⟨hz, its, c', r', e⟩), rfl, q _ (I.hok.fresh (Nat.le_refl _))⟩
  rcases hq with hq | hq
  · obtain ⟨its, r', pl, hz⟩ := I.list hq
    have hlen := r'.length
    obtain ⟨o, ho, hc, n, hd⟩ := pl.isList
    exact call_list_seq p (.inl rfl) ho hc hd (fun h' c' kp e => fin its r' hz h' c' kp e) (by simp only [List.size_toArray] <;> omega)
  · obtain ⟨its, r', pl, hz⟩ := I.tuple hq
    have hlen := r'.length
    obtain ⟨o, ho, hc, n, hd⟩ := pl
    exact call_list_seq p (.inr rfl) ho hc hd (fun h' c' kp e => fin its r' hz h' c' kp e) (by simp only [List.size_toArray] <;> omega)
/-! ### the call of a builtin's method: o.m(..) -/
/-- the value is of that builtin type -/
def tyV (K : PySem.W.Frag) (T : String) (x : V) (H : Hp) : Prop := match x with
  | .str _ => T = "str"
  | .int _ => T = "int"
  | .ref p => (T = "list" ∧ ∃ xs, SqL K H p xs) ∨ (T = "tuple" ∧ ∃ o, K.lookup p = some o ∧ o.cls = .type "tuple" ∧ o.dict = none) ∨
      (T = "dict" ∧ ((∃ kvs, H p = some (.dK kvs)) ∨ ∃ kvs, H p = some (.dT kvs))) ∨ (T = "set" ∧ ∃ S n, H p = some (.set S n))
  | _ => False
theorem tyV_is {pins : List (Addr × Obj)} {σ : St} {H : Hp} {s : Shared} {T : String} {x : V} {v : Value} (I : Inv X pins σ H s) (r : RelV x v) (ty : tyV X.K T x H) :
    s.TypeIs v T ∧ ∀ a, v = .ref a → ∃ ob, s.heap.get? a = some ob ∧ ob.dict = none := by
  cases x with
  | str z =>
    obtain ⟨t, rfl⟩ := r
    cases (show T = "str" from ty)
    exact ⟨typeIs_str s z t, fun _ e => nomatch e⟩
  | int i =>
    obtain ⟨t, rfl⟩ := r
    cases (show T = "int" from ty)
    exact ⟨typeIs_int s i t, fun _ e => nomatch e⟩
  | ref p =>
    cases r
    rcases ty with ⟨rfl, xs, hq⟩ | ⟨rfl, o, hk, hc, hd⟩ | ⟨rfl, hk⟩ | ⟨rfl, S, n, hk⟩
    · obtain ⟨its, _, pl, _⟩ := I.list hq
      refine ⟨pl.isList.typeIs, fun a e => ?_⟩
      cases e
      obtain ⟨o, n, e, c, hd, _⟩ := pl
      exact ⟨o, e, hd⟩
    · refine ⟨⟨o, I.kIn p o hk, hc⟩, fun a e => ?_⟩
      cases e
      exact ⟨o, I.kIn _ o hk, hd⟩
    · have z : ∃ o, s.heap.get? p = some o ∧ o.ExactDict := by
        rcases hk with ⟨kvs, hk⟩ | ⟨kvs, hk⟩
        · obtain ⟨_, _, _, _, o, _, _, e, ex, _⟩ := I.hok p _ hk
          exact ⟨o, e, ex⟩
        · obtain ⟨_, _, _, _, o, _, _, e, ex, _⟩ := I.hok p _ hk
          exact ⟨o, e, ex⟩
      obtain ⟨o, e, ex⟩ := z
      refine ⟨⟨o, e, ex.1⟩, fun a e2 => ?_⟩
      cases e2
      exact ⟨o, e, ex.2.1⟩
    · obtain ⟨o, _, _, _, e, ex, _⟩ := I.hok p _ hk
      refine ⟨⟨o, e, ex.1⟩, fun a e2 => ?_⟩
      cases e2
      exact ⟨o, e, ex.2.1⟩
  | _ => exact False.elim ty
def tBM0 (K : PySem.W.Frag) (T : String) (r : V → List V → Hp → VK → Prop) (to : TE) : TE := fun σ H Q => to σ H fun x H1 => tyV K T x H1 ∧ r x [] H1 Q
def tBM (K : PySem.W.Frag) (T : String) (r : V → List V → Hp → VK → Prop) (to : TE) (t : TA) : TE := fun σ H Q => to σ H fun x H1 => tyV K T x H1 ∧ t σ H1 fun xs H2 => r x xs H2 Q
variable {o e : Expr} {es : List Expr} {to : TE} {t : TA} {name : Str} {apos cpos : Pos} {T id : String} {r : V → List V → Hp → VK → Prop}
theorem pe_bm (pa : PlainAttrs T) (slot : Slot T name id) (hty : typeOf (.builtin id) = pure (.type "method_descriptor")) (hm : MtR X id r) (ho : PE X o to) (ha : PA X (e :: es) t)
    (hbase : attributeBase o name X.env (eval o X.env) = eval o X.env := by rfl)
    (hfew : ((backTo cpos (starEach (e :: es) X.env)).all (fun x => !x.1) && (backToKw cpos (keywordEach [] X.env)).all (fun x => x.1.isSome)
      && decide ((e :: es).length + ([] : List Keyword).length + (if ([] : List Keyword).isEmpty then 0 else 1) < 30)) = true := by rfl)
    (hline : (apos.endLine == cpos.line) = true := by rfl) (hs : starEach (e :: es) X.env = (false, eval e X.env) :: starEach es X.env := by rfl) (hplain : (backTo cpos (starEach es X.env)).any (·.1) = false := by rfl) :
    PE X (.Call (.Attribute o name apos) (e :: es) [] cpos) (tBM X.K T r to t) := by
  intro pins s σ H Q I h
  refine wpAny_Call_method_late hbase hfew hline rfl (thn (ho pins s σ H _ I h) fun v s1 ⟨x, H1, I1, r1, ty, q1⟩ => ?_)
  obtain ⟨h1, h2⟩ := tyV_is I1 r1 ty
  refine ⟨T, id, pa, slot, hty, h1, h2, ?_⟩
  have hA := ha cpos pins s1 σ H1 _ I1 q1
  rw [hs] at hA ⊢
  refine Calls.callWith_builtin (by show (false || (backTo cpos (starEach es X.env)).any (·.1)) = false; rw [hplain] <;> rfl) (Calls.evalArgs_plain ?_)
  exact thn hA fun us s2 ⟨vs, H2, I2, r2, q2⟩ => hm pins s2 σ H2 x vs v us Q I2 r1 r2 q2
/- xs.append(e), list.index on a module's tuple .. are MtR facts of 06m -/
end
end L2

namespace L2
open PySem PySem.Spec PyProof.Rows

def MtM (X : Cx) (id : String) (r : V → List V → Hp → VK → Prop) : Prop :=
  ∀ (pins : List (Addr × Obj)) (s : Shared) (σ : St) (H : Hp) (x : V) (xs : List V) (v : Value) (us : List Value) (Q : VK), Inv X pins σ H s → RelV x v → Vals xs us → r x xs H Q →
    wpAny (model X.prog X.w) X.A (call (.builtin id) (v :: us)) (EP X pins σ Q) X.xe s

/-! ### lists of values -/
theorem Vals.one : ∀ {x : V} {us : List Value}, Vals [x] us → ∃ u, us = [u] ∧ RelV x u
  | _, _, .cons r .nil => ⟨_, rfl, r⟩
theorem Vals.reverse {xs : List V} {us : List Value} (h : Vals xs us) : Vals xs.reverse us.reverse := by
  induction h with
  | nil => exact .nil
  | cons r t ih => rw [List.reverse_cons, List.reverse_cons]; exact Vals.append ih (.cons r .nil)
theorem Vals.rep {xs : List V} {us : List Value} (h : Vals xs us) : ∀ k : Nat, Vals (List.replicate k xs).flatten (List.replicate k us).flatten
  | 0 => .nil
  | k + 1 => by
    rw [List.replicate_succ, List.replicate_succ, List.flatten_cons, List.flatten_cons]
    exact Vals.append h (Vals.rep h k)
theorem foldl_rep (its : List Value) : ∀ (k : Nat) (acc : List Value),
    List.foldl (fun x1 x2 => x1 ++ x2) acc.toArray (List.replicate k its.toArray) = (acc ++ (List.replicate k its).flatten).toArray
  | 0, acc => by simp
  | k + 1, acc => by
    have e : acc.toArray ++ its.toArray = (acc ++ its).toArray := by simp
    have e2 : (acc ++ its) ++ (List.replicate k its).flatten = acc ++ (List.replicate (k + 1) its).flatten := by
      rw [List.replicate_succ, List.flatten_cons, List.append_assoc]
    rw [← e2, ← foldl_rep its k (acc ++ its), ← e, List.replicate_succ, List.foldl_cons]

section
variable {X : Cx} {pins : List (Addr × Obj)} {σ : St} {H : Hp} {s : Shared} {l b : Addr} {xs ys zs : List V}

/-! ### the two steps: a tracked list is rewritten, a new list is laid -/
theorem Inv.lset {its its' : List Value} {n : Nat} {f : Array Value → Array Value} {t' : Nat} (I : Inv X pins σ H s) (hH : H l = some (.lst xs))
    (e : s.heap.get? l = some { cls := .type "list", data := .seq its.toArray n }) (hf : f its.toArray = its'.toArray) (hv : Vals ys its') (hz : ys.length ≤ sizeLine) :
    Inv X pins σ (upd H l (.lst ys)) { s with heap := s.heap.update l (Obj.mapSeq f), toks := t' } := by
  have q := PySem.IsL.update e f
  rw [hf] at q
  refine I.write (x := l) (e := l) (by rw [hH]; exact trivial) (.inl rfl) (fun b' u hb hu => (Heap.get?_update_other s.heap (Obj.mapSeq f) (Ne.symm hb)).trans hu) ⟨_, q⟩ ?_
  exact ⟨hz, its', _, hv, q⟩
theorem Inv.lnew {its : List Value} {t' : Nat} (I : Inv X pins σ H s) (hv : Vals ys its) (hz : ys.length ≤ sizeLine) :
    Inv X pins σ (upd H s.heap.objs.size (.lst ys)) { s with heap := s.heap.push { cls := .type "list", data := .seq its.toArray }, toks := t' } :=
  I.laid (fun _ _ q => Heap.get?_push_of_some _ q) (Nat.le_refl _) ⟨hz, its, 0, hv, Heap.get?_push_size _ rfl⟩
theorem Inv.fresh (I : Inv X pins σ H s) : H s.heap.objs.size = none := I.hok.fresh (Nat.le_refl _)
theorem Inv.lstM (I : Inv X pins σ H s) (hH : H l = some (.lst xs)) : xs.length ≤ sizeLine ∧ ∃ (its : List Value) (n : Nat), Vals xs its ∧ xs.length = its.length ∧ s.heap.get? l = some { cls := .type "list", data := .seq its.toArray n } := by
  obtain ⟨z, its, n, r, e⟩ := I.hok l _ hH
  exact ⟨z, its, n, r, r.length, e⟩

theorem notLongL {n : Nat} (h : n ≤ sizeLine) : Builtin.List.listTooLong n = false := by
  unfold Builtin.List.listTooLong
  exact decide_eq_false (by omega)
end

section
variable {X : Cx}

/-! ### methods -/
def rAppend : V → List V → Hp → VK → Prop := fun x vs H Q => ∃ l xs y, x = .ref l ∧ vs = [y] ∧ H l = some (.lst xs) ∧ xs.length < sizeLine ∧ Q .non (upd H l (.lst (xs ++ [y])))
theorem mt_append : MtM X "list.append" rAppend := by
  intro pins s σ H x vs v us Q I rx rv h
  obtain ⟨l, xs, y, rfl, rfl, hH, hz, q⟩ := h
  cases rx
  obtain ⟨u, rfl, ru⟩ := rv.one
  obtain ⟨z, its, n, r, hl, e⟩ := I.lstM hH
  refine call_meets F.slot_list_append ⟨_, e, rfl⟩ F.entry_list_append (F.args_list_append_2 _ _) (PySem.list_append l its.toArray n u (by rw [List.size_toArray]; omega)) ⟨e, ?_⟩
  refine ⟨.non, _, I.lset (its' := its ++ [u]) hH e (by simp) (r.append (.cons ru .nil)) ?_, rfl, q⟩
  rw [List.length_append, List.length_singleton]
  omega

def rExtend : V → List V → Hp → VK → Prop := fun x vs H Q => ∃ l b xs zs, x = .ref l ∧ vs = [.ref b] ∧ H l = some (.lst xs) ∧ H b = some (.lst zs) ∧ xs.length + zs.length ≤ sizeLine ∧ Q .non (upd H l (.lst (xs ++ zs)))
def rPop : V → List V → Hp → VK → Prop := fun x vs H Q => ∃ l xs y, x = .ref l ∧ vs = [] ∧ H l = some (.lst xs) ∧ xs[xs.length - 1]? = some y ∧ Q y (upd H l (.lst xs.dropLast))
def rPopAt : V → List V → Hp → VK → Prop := fun x vs H Q => ∃ l xs i k y, x = .ref l ∧ vs = [.int i] ∧ H l = some (.lst xs) ∧ -(2 ^ 63) ≤ i ∧ i < 2 ^ 63 ∧ seqIndex? i xs.length = some k ∧ xs[k]? = some y ∧ Q y (upd H l (.lst (xs.eraseIdx k)))
def rReverse : V → List V → Hp → VK → Prop := fun x vs H Q => ∃ l xs, x = .ref l ∧ vs = [] ∧ H l = some (.lst xs) ∧ Q .non (upd H l (.lst xs.reverse))
def rClear : V → List V → Hp → VK → Prop := fun x vs H Q => ∃ l xs, x = .ref l ∧ vs = [] ∧ H l = some (.lst xs) ∧ Q .non (upd H l (.lst []))
/-! ### list + list, list += list, list * int -/
def rCat : R2 := fun x y H Q => ∃ l b xs zs, x = .ref l ∧ y = .ref b ∧ H l = some (.lst xs) ∧ H b = some (.lst zs) ∧ xs.length + zs.length ≤ sizeLine ∧ ∀ p, H p = none → Q (.ref p) (upd H p (.lst (xs ++ zs)))
theorem op_cat : OpR X (binaryOp .Add) rCat := by
  intro pins s σ H x y v u Q I rx ry h
  obtain ⟨l, b, xs, zs, rfl, rfl, hH, hB, hz, q⟩ := h
  cases rx
  cases ry
  obtain ⟨z, its, n, r, hl, e⟩ := I.lstM hH
  obtain ⟨z2, its2, n2, r2, hl2, e2⟩ := I.lstM hB
  refine PySem.P.add_list e e2 ?_ (by rw [List.size_toArray, List.size_toArray]; omega)
  have ea : its.toArray ++ its2.toArray = (its ++ its2).toArray := by simp
  rw [ea]
  exact ⟨.ref _, _, I.lnew (t' := s.toks) (r.append r2) (by rw [List.length_append]; omega), rfl, q _ I.fresh⟩
/-- a list times an int (a negative one is nothing) -/
def rRep : R2 := fun x y H Q => ∃ l k xs, x = .ref l ∧ y = .int k ∧ H l = some (.lst xs) ∧ -(2 ^ 63) ≤ k ∧ k < 2 ^ 63 ∧ xs.length * k.toNat ≤ sizeLine ∧
  ∀ p, H p = none → Q (.ref p) (upd H p (.lst (List.replicate k.toNat xs).flatten))
theorem len_rep {α : Type} (xs : List α) (k : Nat) : (List.replicate k xs).flatten.length = k * xs.length := by
  induction k with
  | zero => simp
  | succ k ih => rw [List.replicate_succ, List.flatten_cons, List.length_append, ih, Nat.succ_mul, Nat.add_comm]
theorem op_rep : OpR X (binaryOp .Mult) rRep := by
  intro pins s σ H x y v u Q I rx ry h
  obtain ⟨l, k, xs, rfl, rfl, hH, h1, h2, hz, q⟩ := h
  cases rx
  obtain ⟨t, rfl⟩ := ry
  obtain ⟨z, its, n, r, hl, e⟩ := I.lstM hH
  have hlen : its.toArray.size * k.toNat ≤ sizeLine := by rw [List.size_toArray, ← hl]; exact hz
  have hcap : ¬ its.toArray.size * k.toNat > (2 ^ 63 - 1) / 8 := by
    have : (sizeLine : Nat) ≤ (2 ^ 63 - 1) / 8 := by decide
    omega
  have hfit : ¬ (!Builtin.List.listFitsIndex k) = true := by
    rw [fitsIndex_both h1 h2]
    exact Bool.false_ne_true
  have hlong : ¬ Builtin.List.listTooLong (its.toArray.size * k.toNat) = true := by
    rw [notLongL hlen]
    exact Bool.false_ne_true
  have hnew : List.foldl (fun x1 x2 => x1 ++ x2) #[] (List.replicate (if its.toArray.isEmpty = true then 0 else k.toNat) its.toArray) = (List.replicate k.toNat its).flatten.toArray := by
    have f0 : ∀ m : Nat, List.foldl (fun x1 x2 => x1 ++ x2) #[] (List.replicate m its.toArray) = (List.replicate m its).flatten.toArray := fun m => by
      have := foldl_rep its m []
      rw [List.nil_append] at this
      exact this
    rw [f0]
    cases its with
    | nil => simp
    | cons a r' => rw [if_neg (by simp)]
  refine wpAny_binaryOp_repeat_ref (T := "list") (U := "int") (by decide) ⟨_, e, rfl⟩ (fun s' => typeIs_int s' k t) noFill_list_mul F.fills_int_mul F.slot_int_rmul repeat_list F.slot_int_index.lookup
    (call_meets F.slot_int_rmul (typeIs_int s k t) F.entry_int_rmul (F.args_int_rmul_2 _ _) (int___rmul___int_list k t l its.toArray n)
      ⟨e, rfl, ⟨_, e, rfl⟩, call_meets F.slot_list_mul ⟨_, e, rfl⟩ F.entry_list_mul (F.args_list_mul_2 _ _) (AutoListH.list___mul___list_int_3 l its.toArray n k t hfit hcap hlong) ⟨e, ?_⟩⟩)
  rw [hnew]
  exact ⟨.ref _, _, I.lnew (t' := s.toks) (r.rep k.toNat) (by rw [len_rep, Nat.mul_comm]; exact hz), rfl, q _ I.fresh⟩

/-! ### del xs[i] -/
end

/-! ### xs[a:b] = ys -/
section
variable {prog : Program} {w : World} {A : Around} {E : Value → Shared → Prop} {s : Shared}
end

section
variable {X : Cx}
end
end L2

namespace Att
open PySem PySem.W PySem.Calls PyProof.Rows

/-! ### the script -/
theorem ints_of_wellAll {P : Params} {h : Heap} : ∀ (ns : List Int) (vs : List Value), WellAll P h vs (ns.map WData.int) → IntsAre vs ns := by
  intro ns
  induction ns with
  | nil =>
    intro vs w
    rw [List.map_nil] at w
    cases w
    exact .nil
  | cons n ns ih =>
    intro vs w
    rw [List.map_cons] at w
    cases w with
    | cons a b =>
      cases a
      exact .cons _ _ (ih _ b)

theorem script_of {l : OpenLaw} {n : Nat} (hn : l.most = some n) {P : Params} {h : Heap} {args : List WData} {vals : List Value}
    (hpre : l.row.toRowW.claim.pre args = true) (hwl : WellAll P h vals args) :
    ∃ a vs ns, vals = [Value.ref a] ∧ args = [WData.list (ns.map WData.int)] ∧ h.get? a = some { cls := .type "list", data := .seq vs.toArray } ∧ IntsAre vs ns ∧ ns.length ≤ n := by
  have hsh : WShape.hasAll [] args [.list .int] = true := (pre_splitW hpre).1
  have hc : l.pre.holds [] { args := args } = true := (pre_splitW hpre).2
  obtain ⟨d, r, rfl, h1, h2⟩ := hasAllW_cons hsh
  obtain rfl := hasAllW_nil h2
  obtain ⟨xs, rfl, h3⟩ := hasW_list h1
  obtain ⟨ns, rfl⟩ := items_int h3
  have hlen : ns.length ≤ n := by
    unfold OpenLaw.pre at hc
    have h4 : (WTm.not (.lt (.lit (.int (n : Int))) (.len (.arg 0)))).holds [] { args := [.list (ns.map .int)] } = true := by
      have h4 := (holds_andW hc).1
      rw [hn] at h4
      exact h4
    have h5 := condW_of h4 (w_not (w_lt w_lit (w_len_list (w_arg rfl))))
    rw [List.length_map] at h5
    refine Nat.le_of_not_lt fun q => ?_
    have q' : (n : Int) < ((ns.length : Nat) : Int) := by omega
    first
      | (rw [decide_eq_true q'] at h5; exact absurd h5 (by decide))
      | (simp at h5; omega)
  cases hwl with
  | cons w1 w2 =>
    cases w2
    cases w1 with
    | list ho hall => exact ⟨_, _, ns, rfl, rfl, ho, ints_of_wellAll ns _ hall, hlen⟩

theorem post_true (l : OpenLaw) (args : List WData) : l.row.toRowW.claim.post args (.bool true) args = true :=
  postW_of (r := l.row.toRowW) (X := (true == true))
    (show WShape.has [] (.bool true) .bool = true by first | rfl | decide | simp [WShape.has, WShape.arms, WShape.armsAll])
    (show (WTm.eq .res (.lit (.bool true))).value [] { args := args, res := some (.bool true), after := args } = some (.bool (true == true)) from w_eq_bool (w_res rfl) w_lit) rfl

/-! ### the attachment: holds_open's last premise (the goal 'hc' behind k_head) from a wpAny of the law's body -/
/-- the same from a codeAny of the CALL (for a layer whose function contracts speak of calls) -/
theorem attach_call {l : OpenLaw} {n : Nat} {q : Program} {loose : List Str} {XP : (Str → Option Value) → Heap → Prop} {YP : World → Heap → Prop} {d : DefRec}
    (hn : l.most = some n) (hdf : d.params.defaults = [])
    (call : ∀ (w : World) (s₀ s₁ : Shared) (mg mb : Str → Option Value) (fa : Addr) (o : Obj) (pm cd doc : Value) (a : Addr) (vs : List Value) (ns : List Int),
      Ground q loose [] XP w s₀ mg mb s₁.heap → YP w s₁.heap →
      s₁.heap.get? fa = some o → o.data = .func (docDef d.name d.params d.body d.scope pm cd doc) → s₁.heap.CodeRec cd d.name → mg d.name = some (.ref fa) →
      s₁.heap.get? a = some { cls := .type "list", data := .seq vs.toArray } → IntsAre vs ns → ns.length ≤ n → s₁.gens = #[] →
      codeAny (model l.prog w) callerA (.call (.ref fa) ⟨[.ref a], []⟩) (fun r s' => r = .ok (.ret (.bool true)) ∧ OldK s₁.heap s'.heap ∧ s'.os = s₁.os ∧ AllBare s'.gens) s₁) :
    WalkO q loose XP YP l.row.toRowW d [] (fun f vs => PySem.call f vs) := by
  intro w s₀ s₁ mg mb G Y fa o pm cd doc dV kV ho hd hcd hD hmg hg args vals as hpre hlay hrd hwl hlo
  obtain rfl : dV = .none := Dflts.none hD hdf
  obtain rfl : kV = .none := Dflts.noKw hD
  obtain ⟨a, vs, ns, rfl, rfl, hobj, hints, hlen⟩ := script_of hn hpre hwl
  refine enter_call (codeAny_mono (call w s₀ s₁ mg mb fa o pm cd doc a vs ns G Y ho (fd_plain hd) hcd hmg hobj hints hlen hg) fun r s' hq => ?_)
  obtain ⟨rfl, h2, h3, h4⟩ := hq
  exact ⟨.inl ⟨.bool true, .bool true, [], rfl, fun _ => rfl, .bool true, post_true l _, fun _ => ⟨List.Pairwise.nil, fun _ hm => (nomatch hm)⟩⟩, h2, h3, h4⟩

/-! ### rules over ANY heap (no ledger) from facts about the written part K: the library's own take a ledger (News) for what they write -/
section
variable {prog : Program} {w : World} {A : Around} {E : Value → Shared → Prop} {s : Shared} {K : Frag}

/-! the whole heap as the ledger: makes every rule that writes through a ledger a rule over any heap -/
def noObjs (h : Heap) : Heap := { h with objs := #[] }
def ledger (h : Heap) (L d : Addr) : List (Addr × Obj) := (List.range h.objs.size).filterMap fun a => if a = L ∨ a = d then none else (h.get? a).map fun o => (a, o)
end
end Att

namespace L2
open PySem PySem.Spec PyProof.Rows

theorem vals_ints : ∀ {vs : List Value} {ns : List Int}, IntsAre vs ns → Vals (ns.map V.int) vs
  | _, _, .nil => .nil
  | _, _, .cons n t h => .cons ⟨t, rfl⟩ (vals_ints h)

/-- nothing is tracked but the script, known to the object (or it is an object of the module) -/
def Only (H : Hp) : Prop := ∀ b, H b = none ∨ ∃ o xs, H b = some (.frz o (.lst xs))

/-- THE HEAD: the law's promise, at the heap behind the top. F, the promise of the law's def, may use that base is part of the heap (so K.In base, base.Ns mainGlobals mg stand in Mod) -/
theorem law_call {P : Program} {w : World} {K : PySem.W.Frag} {mg mb : Str → Option Value} {CX : CXT} {k : Nat} {fa a : Addr} {fd : FuncData} {x : Str} {sp : Sp} {s₁ : Shared} {vs : List Value} {ns : List Int}
    (KX : K.In s₁.heap) (hns : s₁.heap.Ns mainGlobals mg) (hb : s₁.heap.Ns builtinsNs mb) (hbb : ∀ x : Str, x ≠ "__name__" → mb x = bootBuiltins x) (hlim : s₁.heap.NoLimit) (hg : s₁.gens = #[])
    (ha : s₁.heap.get? a = some { cls := .type "list", data := .seq vs.toArray }) (hi : IntsAre vs ns) (hl : ns.length ≤ sizeLine) (hr : Room k callerA)
    (F : ∀ base : Heap, K.In base → base.Ns mainGlobals mg → FnOk P w K mg base CX k fa fd [x] sp) (hbind : ∀ (s : Shared) (u : Value), BindsTo s fd ⟨[u], []⟩ [(x, u)])
    (hsp : ∀ H : Hp, Only H → SqL K H a (ns.map V.int) → sp [.ref a] H (fun v _ => v = .bl true) fun _ _ _ => False)
    (hCX : ∀ H e s', CX [] H s₁ (fun _ _ _ => False) e s' → False) :
    codeAny (model P w) callerA (.call (.ref fa) ⟨[.ref a], []⟩) (fun r s' => r = .ok (.ret (.bool true)) ∧ OldK s₁.heap s'.heap ∧ s'.os = s₁.os ∧ AllBare s'.gens) s₁ := by
  have rv := vals_ints hi
  have lenV := hi.length
  -- from an abstract heap in which nothing but the script may be tracked
  have core : ∀ H : Hp, Only H → SqL K H a (ns.map V.int) → HOk P w H s₁.heap → (∀ b, H b ≠ none → b = a) → (H a ≠ none → K.lookup a = none) →
      codeAny (model P w) callerA (.call (.ref fa) ⟨[.ref a], []⟩) (fun r s' => r = .ok (.ret (.bool true)) ∧ OldK s₁.heap s'.heap ∧ s'.os = s₁.os ∧ AllBare s'.gens) s₁ := by
    intro H hO hS hok hA hK
    have base_of : ∀ {b : Addr} {o : Obj}, s₁.heap.get? b = some o → H b = none → (hidT s₁.heap H).get? b = some o := fun e n => hidT_get e n
    have noA : ∀ {b : Addr} {o : Obj} {es : Array DictEntry} {ep : Nat}, s₁.heap.get? b = some o → o.data = .dict es ep → H b = none := fun {b o es ep} e d => by
      cases q : H b with
      | none => rfl
      | some u =>
        have e' : b = a := hA b (by rw [q]; simp)
        subst e'
        rw [ha] at e; cases e
        have d' : Data.seq vs.toArray _ = Data.dict es ep := d
        cases d'
    have nsK : ∀ {b : Addr} {m : Str → Option Value}, s₁.heap.Ns b m → (hidT s₁.heap H).Ns b m := fun {b m} ⟨o, es, ep, e, d, r⟩ => ⟨o, es, ep, base_of e (noA e d), d, r⟩
    have hKb : K.In (hidT s₁.heap H) := fun b o e => base_of (KX b o e) (by
      cases q : H b with
      | none => rfl
      | some u =>
        have e' : b = a := hA b (by rw [q]; simp)
        subst e'
        rw [hK (by rw [q]; simp)] at e; cases e)
    have hM : Mod K mg (hidT s₁.heap H) := ⟨hKb, nsK hns, ⟨mb, nsK hb, hbb⟩, let ⟨mc, h1, h2⟩ := hlim; ⟨mc, nsK h1, h2⟩⟩
    have e0 : Env0 P w K mg (hidT s₁.heap H) callerA [] s₁ H := ⟨rfl, hM, fun b o e => of_hidT e, Nat.le_of_eq (hidT_size _ _), trivial, fun b hb => absurd (show b ∈ ([] : List Addr) from hb) (by simp), hok, .of_eq hg⟩
    refine codeAny_mono ((F _ hKb (nsK hns)).run callerA [] s₁ H ⟨[.ref a], []⟩ [.ref a] [.ref a] _ _ hr e0 (hbind s₁ (.ref a)) (.cons rfl .nil) (hsp H hO hS)) fun r s' h => ?_
    cases r with
    | error e => exact (hCX H e s' h).elim
    | ok fl =>
      cases fl with
      | next => exact False.elim h
      | brk => exact False.elim h
      | cont => exact False.elim h
      | ret u =>
        obtain ⟨v, H', os, bare, un, hok', r', q⟩ := h
        have q' : v = .bl true := q
        subst q'
        obtain rfl : u = Value.bool true := r'
        refine ⟨rfl, OldK.of_keep fun b o e => ?_, os, bare⟩
        cases q : H b with
        | none => exact un.keep b o e q (by intro z; exact absurd (show b ∈ ([] : List Addr) from z) (by simp)) (by simp)
        | some u =>
          rcases hO b with z | ⟨ob, xs, z⟩
          · rw [q] at z; cases z
          · have z2 := un.frzs b ob _ z
            obtain ⟨e1, _⟩ := hok b _ z
            obtain ⟨e2, _⟩ := hok' b _ z2
            rw [e] at e1; cases e1
            exact e2
  cases hk : K.lookup a with
  | some o =>
    -- the script is one of the module's own objects
    have e := KX a o hk
    rw [ha] at e
    cases e
    refine core (fun _ => none) (fun _ => .inl rfl) (.inr ⟨_, vs.toArray, _, hk, rfl, rfl, rfl, by rw [List.size_toArray, lenV]; exact hl, by simpa using rv⟩) (fun b u z => by have z' : (none : Option HO) = some u := z; cases z') (fun b z => absurd rfl z) fun z => absurd rfl z
  | none =>
    refine core (fun b => if b = a then some (.frz { cls := .type "list", data := .seq vs.toArray } (.lst (ns.map V.int))) else none) (fun b => ?_) (.inl (.inr ⟨{ cls := .type "list", data := .seq vs.toArray }, if_pos rfl⟩)) (fun b u z => ?_) (fun b z => ?_) fun _ => hk
    · by_cases hb : b = a
      · exact .inr ⟨_, _, if_pos hb⟩
      · exact .inl (if_neg hb)
    · by_cases hb : b = a
      · have z' := (if_pos hb).symm.trans z
        cases z'
        subst hb
        exact ⟨ha, by rw [List.length_map]; exact hl, vs, _, rv, ha⟩
      · have z' := (if_neg hb).symm.trans z
        cases z'
    · by_cases hb : b = a
      · exact hb
      · exact absurd (if_neg hb) z
end L2

namespace L2
open PySem PySem.Spec PyProof.Rows

abbrev KOf {K : PySem.W.Frag} {h : Heap} (_ : K.In h) : PySem.W.Frag := K

/-- the goal that k_head leaves (case hc), from the law's promise. F gives the function object fd (K's own) once, then the promise over every base -/
theorem walk_of {l : PySem.W.OpenLaw} {n k : Nat} {q : Program} {loose : List Str} {XP : (Str → Option Value) → Heap → Prop} {YP : World → Heap → Prop} {d : DefRec} {K : Params → PySem.W.Frag} {CX : World → CXT} {sp : World → Sp} {x : Str}
    (hn : l.most = some n) (hn2 : n ≤ sizeLine) (hdf : d.params.defaults = []) (hr : Room k callerA)
    (hY : ∀ (w : World) (h : Heap), YP w h → (K w.params).In h)
    (F : ∀ (w : World) (mg : Str → Option Value) (fa : Addr) (h : Heap), (K w.params).In h → h.Ns mainGlobals mg → mg d.name = some (.ref fa) →
      ∃ fd : FuncData, (∀ (s : Shared) (u : Value), BindsTo s fd ⟨[u], []⟩ [(x, u)]) ∧
        ∀ base : Heap, (K w.params).In base → base.Ns mainGlobals mg → FnOk l.prog w (K w.params) mg base (CX w) k fa fd [x] (sp w))
    (hsp : ∀ (w : World) (H : Hp) (a : Addr) (ns : List Int), ns.length ≤ n → Only H → SqL (K w.params) H a (ns.map V.int) → sp w [.ref a] H (fun v _ => v = .bl true) fun _ _ _ => False)
    (hCX : ∀ (w : World) (H : Hp) (s : Shared) (e : Value) (s' : Shared), CX w [] H s (fun _ _ _ => False) e s' → False) :
    PySem.W.WalkO q loose XP YP l.row.toRowW d [] (fun f vs => PySem.call f vs) := by
  refine Att.attach_call hn hdf fun w s₀ s₁ mg mb fa o pm cd doc a vs ns G Y ho hd hcd hmg hobj hints hlen hg => ?_
  have KX := hY w _ Y
  obtain ⟨fd, hb, hF⟩ := F w mg fa _ KX G.T.g hmg
  exact law_call KX G.T.g G.T.b G.T.builtins G.T.nolimit hg hobj hints (Nat.le_trans hlen hn2) hr hF hb (fun H hO hS => hsp w H a ns hlen hO hS) fun H e s' => hCX w H s₁ e s'
end L2

/- THE LAST THEOREM (shape; LID, My.* are yours):
   My.Adr: a structure of the addresses that your layer names (classes, functions); My.Txt K t: a structure (Prop) of the equations over K;
   My.txt_mk : {K} {implicit addresses ..} (e1 : nsIn K mainGlobals "law" = some (some (.ref f))) (e2 : K.lookup f = some ⟨oc, od, .func (fnOf "law" "law" params body scope dV kV doc pm an cdv ct), sl⟩) (e3 : codeIn K cdv "law" = true) .. : ∃ t, My.Txt K t

set_option maxRecDepth 100000 in
set_option maxHeartbeats 0 in
theorem PySem.Challenge.cw_LID_holds : PySem.Challenge.rw_LID.Holds := by
  w_on; o_law; k_head; (case hw => w_witness2)
  k_fill
  refine L2.walk_of (l := PySem.Challenge.rw_LID) (n := 63) (k := 40) (x := "script") (CX := fun w => ..) (sp := fun _ => My.sp_law) rfl (by decide) rfl ⟨rfl, by decide, by decide⟩ (fun w h Y => PySem.W.kIn_of Y) ?F ?S ?C
  case F =>
    intro w mg fa h KX G hmg
    have T : ∃ t, My.Txt (L2.KOf KX) t := by
      dsimp only [L2.KOf]                          -- K must stand as «<heap const> w.params» for k_is
      refine' My.txt_mk ?e1 ?e2 ?e3 ..
      (case e1 => PySem.W.k_is)                    -- in the order: a name -> its address -> its object -> its parts
      (case e2 => PySem.W.k_is)
      ..
    obtain ⟨t, T⟩ := T
    have e0 := hmg.symm.trans (PySem.W.mg_of KX G T.law)
    cases e0                                       -- fa is the law's own address
    exact ⟨_, fun s u => .of_eq rfl, fun base kb nb => My.law_fn T kb nb⟩     -- if «.of_eq rfl» comes too early: refine' ⟨_, ?b, fun base kb nb => My.law_fn T kb nb⟩; exact fun s u => .of_eq rfl
  case S => exact fun w H a ns hl hO hS => ..
  case C => exact ..
(the tactic k_is has no namespace: write k_is) -/

/-! SHORT WORDS over the layer: a def of the text, its body, what a loop and a test want. -/
namespace L2
open PySem PySem.Spec PyProof.Rows

/-! ### the text by places -/
/-- the j-th statement of a class's body -/
def inClass (s : Stmt) (j : Nat) : Stmt := match s with
  | .ClassDef _ _ _ body _ _ _ _ _ _ _ => body.getD j (.Pass ⟨0, 0, 0, 0⟩)
  | _ => .Pass ⟨0, 0, 0, 0⟩
def defArgs (s : Stmt) : Arguments := match s with
  | .FunctionDef _ a _ _ _ _ _ _ _ _ => a
  | _ => { posonlyargs := [], args := [], vararg := none, kwonlyargs := [], kw_defaults := [], kwarg := none, defaults := [] }
def defBody (s : Stmt) : List Stmt := match s with
  | .FunctionDef _ _ b _ _ _ _ _ _ _ => b
  | _ => []
def defScope (s : Stmt) : Scope := match s with
  | .FunctionDef _ _ _ _ _ _ sc _ _ _ => sc
  | _ => { kind := .function, names := [], isGenerator := false, isCoroutine := false }

/-! ### no exception leaves a def -/
abbrev CX0 : CXT := fun _ _ _ _ _ _ => False
abbrev E0 : XK := fun _ _ _ => False
theorem pass0 {X : Cx} : Passes CX0 X E0 := fun _ _ _ _ _ _ _ h => h.elim

/-! ### a def (or method) of the text as it stands behind the top -/
structure Fun (K : PySem.W.Frag) (x qual : Str) (st : Stmt) (f : Addr) (fd : FuncData) : Prop where
  ex : ∃ (oc : Value) (od : Option Addr) (kV doc pm : Value) (an : Option Addr) (cdv ct : Value) (osl : Array (Option Value)),
    fd = PySem.W.fnOf x qual (defArgs st) (defBody st) (defScope st) .none kV doc pm an cdv ct ∧ K.lookup f = some ⟨oc, od, .func fd, osl⟩ ∧ PySem.W.codeIn K cdv qual = true
  kp : PySem.W.keepIn K (.ref f) = true
section
variable {P : Program} {w : World} {K : PySem.W.Frag} {mg : Str → Option Value} {base : Heap}
/-- THE RULE for a def: its body as a term of rules, and the reading of that term -/
theorem Fun.ok {x qual : Str} {st : Stmt} {f : Addr} {fd : FuncData} {N ps : List Str} {k : Nat} {sp : Sp} (F : Fun K x qual st f fd) (S : FnScope N ps (defScope st)) (len : ∀ vs H Q E, sp vs H Q E → vs.length = ps.length)
    (hbody : ∀ (cdv : Value) (A : Around) (outer : List Env) (s : Shared) (H : Hp) (vs : List V) (Q : VK) (E : XK), Room k (A.deeper (envOfC qual (defScope st) s.heap.objs.size f cdv)) → sp vs H Q E →
      ∃ t, PSs (cxOf CX0 P w K mg base N qual (defScope st) f cdv A outer s H E).nox (defBody st) t ∧ t { nx := fun _ H' => Q .non H', rt := Q } (start N vs) H) : FnOk P w K mg base CX0 (k + 1) f fd ps sp := by
  obtain ⟨oc, od, kV, doc, pm, an, cdv, ct, osl, rfl, lk, hcd⟩ := F.ex
  refine fn_of lk hcd S len fun A outer s H vs Q E hr hsp => ?_
  obtain ⟨t, h, q⟩ := hbody cdv A outer s H vs Q E hr hsp
  exact ⟨t, h.nox, q⟩
/-- how its arguments bind (no defaults): h is «fun _ _ _ _ _ _ us hl => match us, hl with | [_, _], _ => rfl», one _ a parameter -/
theorem Fun.binds {x qual : Str} {st : Stmt} {f : Addr} {fd : FuncData} {ps : List Str} (F : Fun K x qual st f fd)
    (h : ∀ (kV doc pm : Value) (an : Option Addr) (cdv ct : Value) (us : List Value), us.length = ps.length → bindArgs (PySem.W.fnOf x qual (defArgs st) (defBody st) (defScope st) .none kV doc pm an cdv ct) ⟨us, []⟩ = pure (ps.zip us)) : Binds K fd ps [] := by
  obtain ⟨oc, od, kV, doc, pm, an, cdv, ct, osl, rfl, lk, hcd⟩ := F.ex
  exact .all (h kV doc pm an cdv ct)
theorem fun_mk {x qual : Str} {st : Stmt} {f : Addr} {oc : Value} {od an : Option Addr} {osl : Array (Option Value)} {kV doc pm cdv ct : Value} (l : K.lookup f = some ⟨oc, od, .func (PySem.W.fnOf x qual (defArgs st) (defBody st) (defScope st) .none kV doc pm an cdv ct), osl⟩)
    (c : PySem.W.codeIn K cdv qual = true) (k : PySem.W.keepIn K (.ref f) = true) : Fun K x qual st f (PySem.W.fnOf x qual (defArgs st) (defBody st) (defScope st) .none kV doc pm an cdv ct) := ⟨⟨oc, od, kV, doc, pm, an, cdv, ct, osl, rfl, l, c⟩, k⟩
end
/-! ### expressions in short: the name that stands in the i-th slot -/
section
variable {X : Cx}
theorem pv (i : Nat) {x : Str} {pos : Pos} (hN : X.N[i]? = some x := by rfl) (hv : Vis X.env.scope x := by first | exact Or.inl rfl | exact Or.inr (Or.inl rfl) | exact Or.inr (Or.inr rfl)) (hd : (x == ("__debug__" : Str)) = false := by decide)
    (hcd : (x == ("__classdict__" : Str)) = false := by decide) : PE X (.Name x pos) (tVar i) := pe_var hN hv hd hcd
end

/-! ### tests -/
theorem iteF {A B : Prop} (h : B) : if false = true then A else B := by
  rw [if_neg Bool.false_ne_true]
  exact h
theorem iteT {A B : Prop} (h : A) : if true = true then A else B := by
  rw [if_pos rfl]
  exact h
/-! ### heaps -/
/-- all that was tracked is as it was -/
def Same (H H' : Hp) : Prop := ∀ b o, H b = some o → H' b = some o
theorem Same.refl (H : Hp) : Same H H := fun _ _ h => h
theorem Same.trans {H H1 H2 : Hp} (a : Same H H1) (b : Same H1 H2) : Same H H2 := fun c o h => b c o (a c o h)
theorem Same.free {H H' : Hp} (e : Same H H') {l : Addr} (h : H' l = Option.none) : H l = Option.none := by
  cases q : H l with
  | none => rfl
  | some o =>
    rw [e l o q] at h
    cases h
theorem Same.seq {K : PySem.W.Frag} {H H' : Hp} {a : Addr} {xs : List V} (e : Same H H') (h : SqL K H a xs) : SqL K H' a xs := by
  rcases h with (h | ⟨o, h⟩) | h
  · exact .inl (.inl (e _ _ h))
  · exact .inl (.inr ⟨o, e _ _ h⟩)
  · exact .inr h

end L2

set_option Elab.async false
set_option linter.all false
set_option maxRecDepth 100000
namespace L2
open PySem PySem.Spec PyProof.Rows

/-! ### what a value stands for, read off the abstract heap; equality at any depth -/
def PdAt (K : PySem.W.Frag) (H : Hp) : Nat → PyData → V → Prop
  | 0, d, v => match d with
    | .none => v = .non
    | .bool b => v = .bl b
    | .int i => v = .int i
    | .str x => v = .str x ∧ PyData.strOk x = true
    | _ => False
  | n + 1, d, v => match d with
    | .none => v = .non
    | .bool b => v = .bl b
    | .int i => v = .int i
    | .str x => v = .str x ∧ PyData.strOk x = true
    | .list ds => ∃ a xs, v = .ref a ∧ SqL K H a xs ∧ Paired (PdAt K H n) ds xs
    | .tuple ds => ∃ a xs, v = .ref a ∧ SqT K H a xs ∧ Paired (PdAt K H n) ds xs
    | .dict _ => False
section
variable {X : Cx} {pins : List (Addr × Obj)} {σ : St} {H : Hp} {s : Shared}
theorem pd_reads (I : Inv X pins σ H s) : ∀ (n : Nat) (d : PyData) (v : V) (u : Value), PdAt X.K H n d v → RelV v u → ∃ as, Reads s.heap u d as := by
  intro n
  induction n with
  | zero =>
    intro d v u h r
    cases d with
    | none => cases (show v = .non from h); cases (show u = Value.none from r); exact ⟨_, Reads.none⟩
    | bool b => cases (show v = .bl b from h); cases (show u = Value.bool b from r); exact ⟨_, Reads.bool b⟩
    | int i => cases (show v = .int i from h); obtain ⟨t, rfl⟩ := (show ∃ t, u = Value.int i t from r); exact ⟨_, Reads.int i t⟩
    | str x => cases (show v = .str x ∧ _ from h).1; obtain ⟨t, rfl⟩ := (show ∃ t, u = Value.str x t from r); exact ⟨_, Reads.str x t⟩
    | list _ => exact (show False from h).elim
    | tuple _ => exact (show False from h).elim
    | dict _ => exact (show False from h).elim
  | succ n ih =>
    have all : ∀ (ds : List PyData) (xs : List V) (us : List Value), Paired (PdAt X.K H n) ds xs → Vals xs us → ∃ as, ReadsAll s.heap us ds as := by
      intro ds xs us p
      induction p generalizing us with
      | nil => intro r; cases r; exact ⟨_, ReadsAll.nil⟩
      | cons q _ hi =>
        intro r
        cases r with
        | cons r1 rr =>
          obtain ⟨as, h1⟩ := ih _ _ _ q r1
          obtain ⟨bs, h2⟩ := hi _ rr
          exact ⟨_, ReadsAll.cons h1 h2⟩
    intro d v u h r
    cases d with
    | none => cases (show v = .non from h); cases (show u = Value.none from r); exact ⟨_, Reads.none⟩
    | bool b => cases (show v = .bl b from h); cases (show u = Value.bool b from r); exact ⟨_, Reads.bool b⟩
    | int i => cases (show v = .int i from h); obtain ⟨t, rfl⟩ := (show ∃ t, u = Value.int i t from r); exact ⟨_, Reads.int i t⟩
    | str x => cases (show v = .str x ∧ _ from h).1; obtain ⟨t, rfl⟩ := (show ∃ t, u = Value.str x t from r); exact ⟨_, Reads.str x t⟩
    | list ds =>
      obtain ⟨a, xs, rfl, hq, hp⟩ := (show ∃ a xs, v = .ref a ∧ SqL X.K H a xs ∧ Paired (PdAt X.K H n) ds xs from h)
      cases (show u = Value.ref a from r)
      obtain ⟨its, rv, pl, hz⟩ := I.list hq
      obtain ⟨as, ra⟩ := all _ _ _ hp rv
      obtain ⟨o, ho, hc, k, hd⟩ := pl.isList
      exact ⟨_, reads_list_at ho hc hd (by simpa using ra)⟩
    | tuple ds =>
      obtain ⟨a, xs, rfl, hq, hp⟩ := (show ∃ a xs, v = .ref a ∧ SqT X.K H a xs ∧ Paired (PdAt X.K H n) ds xs from h)
      cases (show u = Value.ref a from r)
      obtain ⟨its, rv, pl, hz⟩ := I.tuple hq
      obtain ⟨as, ra⟩ := all _ _ _ hp rv
      obtain ⟨o, ho, hc, k, hd⟩ := (show s.heap.IsTuple a its.toArray from pl)
      exact ⟨_, reads_tuple_at ho hc hd (by simpa using ra)⟩
    | dict _ => exact (show False from h).elim
end
theorem pd_shape {K : PySem.W.Frag} {H : Hp} : ∀ (n : Nat) (d : PyData) (v : V), PdAt K H n d v → d.canLay0 = true ∧ d.depth ≤ n := by
  intro n
  induction n with
  | zero =>
    intro d v h
    cases d with
    | str x => simp [PyData.canLay0, PyData.depth, (show v = .str x ∧ PyData.strOk x = true from h).2]
    | list _ => exact (show False from h).elim
    | tuple _ => exact (show False from h).elim
    | dict _ => exact (show False from h).elim
    | _ => simp [PyData.canLay0, PyData.depth]
  | succ n ih =>
    have all : ∀ (ds : List PyData) (xs : List V), Paired (PdAt K H n) ds xs → PyData.canLayAll0 ds = true ∧ PyData.depthAll ds ≤ n := by
      intro ds xs p
      induction p with
      | nil => simp [PyData.canLayAll0, PyData.depthAll]
      | cons q _ hi =>
        have h1 := ih _ _ q
        simp only [PyData.canLayAll0, PyData.depthAll, h1.1, hi.1, Bool.and_self, true_and]
        have a1 := h1.2
        have a2 := hi.2
        omega
    intro d v h
    cases d with
    | str x => simp [PyData.canLay0, PyData.depth, (show v = .str x ∧ PyData.strOk x = true from h).2]
    | list ds =>
      obtain ⟨a, xs, rfl, hq, hp⟩ := (show ∃ a xs, v = .ref a ∧ SqL K H a xs ∧ Paired (PdAt K H n) ds xs from h)
      have q := all _ _ hp
      have q2 := q.2
      simp only [PyData.canLay0, PyData.depth, q.1, true_and]
      omega
    | tuple ds =>
      obtain ⟨a, xs, rfl, hq, hp⟩ := (show ∃ a xs, v = .ref a ∧ SqT K H a xs ∧ Paired (PdAt K H n) ds xs from h)
      have q := all _ _ hp
      have q2 := q.2
      simp only [PyData.canLay0, PyData.depth, q.1, true_and]
      omega
    | dict _ => exact (show False from h).elim
    | _ => simp [PyData.canLay0, PyData.depth]
def rEqP (K : PySem.W.Frag) : R2 := fun x y H Q => ∃ d e, PdAt K H 9 d x ∧ PdAt K H 9 e y ∧ Q (.bl (PyData.eqv d e)) H
def rNeP (K : PySem.W.Frag) : R2 := fun x y H Q => ∃ d e, PdAt K H 9 d x ∧ PdAt K H 9 e y ∧ Q (.bl (!PyData.eqv d e)) H
section
variable {X : Cx}
theorem pd_shaped {K : PySem.W.Frag} {H : Hp} {d : PyData} {v : V} (h : PdAt K H 9 d v) : SeqAt.shaped d = true := by
  have q := pd_shape 9 d v h
  unfold SeqAt.shaped
  rw [q.1, Bool.true_and]
  exact decide_eq_true (Nat.le_trans q.2 (by decide))
theorem op_eqP (hu : X.A.units + 64 < cLine) : OpR X (compareOp .Eq) (rEqP X.K) := by
  intro pins s σ H x y v u Q I rx ry h
  obtain ⟨d, e, hd, he, q⟩ := h
  obtain ⟨as, ra⟩ := pd_reads I 9 d x v hd rx
  obtain ⟨bs, rb⟩ := pd_reads I 9 e y u he ry
  exact eq_dataH ra rb (pd_shaped hd) (pd_shaped he) hu ⟨.bl _, H, I, rfl, q⟩
theorem op_neP (hu : X.A.units + 64 < cLine) : OpR X (compareOp .NotEq) (rNeP X.K) := by
  intro pins s σ H x y v u Q I rx ry h
  obtain ⟨d, e, hd, he, q⟩ := h
  obtain ⟨as, ra⟩ := pd_reads I 9 d x v hd rx
  obtain ⟨bs, rb⟩ := pd_reads I 9 e y u he ry
  exact ne_dataH ra rb (pd_shaped hd) (pd_shaped he) hu ⟨.bl _, H, I, rfl, q⟩
end
abbrev iL (ns : List Int) : List V := ns.map V.int
abbrev pL (ns : List Int) : PyData := .list (ns.map PyData.int)
theorem eqvAll_ints : ∀ (xs ys : List Int), PyData.eqvAll (xs.map PyData.int) (ys.map PyData.int) = decide (xs = ys)
  | [], [] => by simp [PyData.eqvAll]
  | [], y :: ys => by simp [PyData.eqvAll]
  | x :: xs, [] => by simp [PyData.eqvAll]
  | x :: xs, y :: ys => by
    simp only [List.map_cons, PyData.eqvAll, PyData.eqv, eqvAll_ints xs ys, List.cons.injEq]
    by_cases h1 : x = y <;> by_cases h2 : xs = ys <;> simp [h1, h2]
theorem eqv_pints (xs ys : List Int) : PyData.eqv (pL xs) (pL ys) = decide (xs = ys) := by
  show PyData.eqvAll _ _ = _
  exact eqvAll_ints xs ys
theorem paired_ints {K : PySem.W.Frag} {H : Hp} {n : Nat} : ∀ ns : List Int, Paired (PdAt K H n) (ns.map PyData.int) (iL ns)
  | [] => .nil
  | i :: ns => .cons (by cases n <;> exact (rfl : V.int i = V.int i)) (paired_ints ns)
theorem pd_ints {K : PySem.W.Frag} {H : Hp} {n : Nat} {a : Addr} {ns : List Int} (h : SqL K H a (iL ns)) : PdAt K H (n + 1) (pL ns) (.ref a) := ⟨a, iL ns, rfl, h, paired_ints ns⟩
theorem pd_int {K : PySem.W.Frag} {H : Hp} {n : Nat} {i : Int} : PdAt K H n (.int i) (.int i) := by cases n <;> exact (rfl : V.int i = V.int i)
theorem pd_bl {K : PySem.W.Frag} {H : Hp} {n : Nat} {b : Bool} : PdAt K H n (.bool b) (.bl b) := by cases n <;> exact (rfl : V.bl b = V.bl b)
theorem pd_non {K : PySem.W.Frag} {H : Hp} {n : Nat} : PdAt K H n .none .non := by cases n <;> exact (rfl : V.non = V.non)

/-! ### intro rules -/
section
variable {K : PySem.W.Frag} {σ : St} {H : Hp} {Q : VK}
theorem i_var {i : Nat} {v : V} (h : σ[i]? = some (some v)) (q : Q v H) : tVar i σ H Q := ⟨v, h, q⟩
theorem i_I0 {g : Int → Int → V} {i j : Int} (q : Q (g i j) H) : rI0 g (.int i) (.int j) H Q := ⟨i, j, rfl, rfl, q⟩
theorem i_U {g : Int → V} {i : Int} (q : Q (g i) H) : rU g (.int i) H Q := ⟨i, rfl, q⟩
theorem beq_dec (i j : Int) : (i == j) = decide (i = j) := by
  by_cases h : i = j <;> simp [h]
theorem i_eqI {i j : Int} (q : Q (.bl (decide (i = j))) H) : rEqP K (.int i) (.int j) H Q := ⟨_, _, pd_int, pd_int, by rw [← beq_dec] at q; simpa [PyData.eqv] using q⟩
theorem i_neI {i j : Int} (q : Q (.bl (!decide (i = j))) H) : rNeP K (.int i) (.int j) H Q := ⟨_, _, pd_int, pd_int, by rw [← beq_dec] at q; simpa [PyData.eqv] using q⟩
theorem i_neL {a b : Addr} {xs ys : List Int} (ha : SqL K H a (iL xs)) (hb : SqL K H b (iL ys)) (q : Q (.bl (!decide (xs = ys))) H) : rNeP K (.ref a) (.ref b) H Q := ⟨_, _, pd_ints ha, pd_ints hb, by rw [eqv_pints]; exact q⟩
end

/-! ### + and * of more kinds, an item -/
def rAddP : R2 := fun x y H Q => rI0 (fun i j => .int (i + j)) x y H Q ∨ rCat x y H Q
def rIxP (K : PySem.W.Frag) : R2 := fun x y H Q => rIxL K x y H Q ∨ rIxT K x y H Q
def rMulP : R2 := fun x y H Q => rI CMul (fun i j => .int (i * j)) x y H Q ∨ rRep x y H Q
section
variable {X : Cx}
theorem op_addP : OpR X (binaryOp .Add) rAddP := op_add.or op_cat
theorem op_mulP : OpR X (binaryOp .Mult) rMulP := op_mul.or op_rep
theorem ix_P : IxR X (rIxP X.K) := ix_list.or ix_tup
end
section
variable {K : PySem.W.Frag} {σ : St} {H : Hp} {Q : VK}
theorem i_addI {i j : Int} (q : Q (.int (i + j)) H) : rAddP (.int i) (.int j) H Q := .inl ⟨i, j, rfl, rfl, q⟩
theorem i_addL {a b : Addr} {xs ys : List V} (ha : H a = some (.lst xs)) (hb : H b = some (.lst ys)) (hl : xs.length + ys.length ≤ sizeLine) (q : ∀ p, H p = none → Q (.ref p) (upd H p (.lst (xs ++ ys)))) : rAddP (.ref a) (.ref b) H Q := .inr ⟨a, b, xs, ys, rfl, rfl, ha, hb, hl, q⟩
theorem i_mulI {i j : Int} (c : CMul i j) (q : Q (.int (i * j)) H) : rMulP (.int i) (.int j) H Q := .inl ⟨i, j, rfl, rfl, c, q⟩
theorem atI_ints {ns : List Int} {i : Int} (h0 : 0 ≤ i) (h1 : i < ns.length) : ∃ v, atI (iL ns) i = some (.int v) ∧ ns[i.toNat]? = some v ∧ v ∈ ns := by
  have hl : i.toNat < ns.length := by omega
  refine ⟨ns[i.toNat], ?_, by simp [hl], List.getElem_mem hl⟩
  have := atI_nat (xs := iL ns) (j := i.toNat) (v := .int ns[i.toNat]) (by simp [iL, hl])
  rwa [Int.toNat_of_nonneg h0] at this
/-- an item of a list of iL, in bounds -/
theorem i_ixL {p : Addr} {ns : List Int} {i : Int} (h : SqL K H p (iL ns)) (h0 : 0 ≤ i) (h1 : i < ns.length) (q : ∀ v, ns[i.toNat]? = some v → v ∈ ns → Q (.int v) H) : rIxP K (.ref p) (.int i) H Q := by
  obtain ⟨v, e1, e2, e3⟩ := atI_ints h0 h1
  exact .inl ⟨p, _, i, _, rfl, rfl, h, e1, q v e2 e3⟩
/-- an item of any list, at a place from the front -/
theorem i_ixN {p : Addr} {xs : List V} {i : Int} {v : V} (h : SqL K H p xs) (h0 : 0 ≤ i) (e : xs[i.toNat]? = some v) (q : Q v H) : rIxP K (.ref p) (.int i) H Q := by
  have := atI_nat (xs := xs) (j := i.toNat) (v := v) e
  rw [Int.toNat_of_nonneg h0] at this
  exact .inl ⟨p, _, i, _, rfl, rfl, h, this, q⟩
theorem i_ixT {p : Addr} {xs : List V} {i : Int} {v : V} (h : SqT K H p xs) (h0 : 0 ≤ i) (e : xs[i.toNat]? = some v) (q : Q v H) : rIxP K (.ref p) (.int i) H Q := by
  have := atI_nat (xs := xs) (j := i.toNat) (v := v) e
  rw [Int.toNat_of_nonneg h0] at this
  exact .inr ⟨p, _, i, _, rfl, rfl, h, this, q⟩
end

/-! ### calls of the text's own defs -/
def Callee (P : Program) (w : World) (K : PySem.W.Frag) (mg : Str → Option Value) (base : Heap) (x : Str) (k : Nat) (sp : Sp) : Prop :=
  ∃ f fd ps, FnOk P w K mg base CX0 k f fd ps sp ∧ mg x = some (.ref f) ∧ PySem.W.keepIn K (.ref f) = true ∧ Binds K fd ps []
def Def (K : PySem.W.Frag) (mg : Str → Option Value) (x : Str) (st : Stmt) : Prop := ∃ f fd, Fun K x x st f fd ∧ mg x = some (.ref f)
section
variable {X : Cx} {x : Str} {k : Nat} {sp : Sp} {e : Expr} {es : List Expr} {t : TA} {p pos : Pos}
theorem pe_callN (C : Callee X.prog X.w X.K X.mg X.base x k sp) (hr : Room k X.A) (hg : Gl X x) (ha : PA X (e :: es) t)
    (he : starEach (e :: es) X.env = (false, eval e X.env) :: starEach es X.env := by rfl) (hpl : (backTo pos (starEach es X.env)).any (·.1) = false := by rfl)
    (hdb : (x == ("__debug__" : Str)) = false := by decide) : PE X (.Call (.Name x p) (e :: es) [] pos) (tCall sp [] E0 t) := by
  obtain ⟨f, fd, ps, F, hm, hk, hb⟩ := C
  exact pe_call F hr hg hm hk hb .nil pass0 ha (hdb := hdb) (he := he) (hpl := hpl)
def rTru (K : PySem.W.Frag) (x : V) (H : Hp) (Q : Bool → Hp → Prop) : Prop := ∃ k, TruV K x H k ∧ Q k H
def tTru (K : PySem.W.Frag) (ta : TE) : TT := fun σ H Q => ta σ H fun x H' => rTru K x H' Q
theorem pt_truthN {a : Expr} {ta : TE} (ha : PE X a ta) (he : ∀ whole, isTrue a X.env whole = (do let v ← whole; standAt a.pos; holding [v] (truthy v))) :
    PT X a (tTru X.K ta) := pt_truth ha he
end
theorem Def.ok {P : Program} {w : World} {K : PySem.W.Frag} {mg : Str → Option Value} {base : Heap} {x : Str} {st : Stmt} {N ps : List Str} {k : Nat} {sp : Sp} (D : Def K mg x st) (S : FnScope N ps (defScope st))
    (bd : ∀ (kV doc pm : Value) (an : Option Addr) (cdv ct : Value) (us : List Value), us.length = ps.length → bindArgs (PySem.W.fnOf x x (defArgs st) (defBody st) (defScope st) .none kV doc pm an cdv ct) ⟨us, []⟩ = pure (ps.zip us))
    (len : ∀ vs H Q E, sp vs H Q E → vs.length = ps.length)
    (hbody : ∀ (f : Addr) (cdv : Value) (A : Around) (outer : List Env) (s : Shared) (H : Hp) (vs : List V) (Q : VK) (E : XK), Room k (A.deeper (envOfC x (defScope st) s.heap.objs.size f cdv)) → sp vs H Q E →
      ∃ t, PSs (cxOf CX0 P w K mg base N x (defScope st) f cdv A outer s H E).nox (defBody st) t ∧ t { nx := fun _ H' => Q .non H', rt := Q } (start N vs) H) : Callee P w K mg base x (k + 1) sp := by
  obtain ⟨f, fd, F, hm⟩ := D
  exact ⟨f, fd, ps, F.ok S len fun cdv A outer s H vs Q E hr h => hbody f cdv A outer s H vs Q E hr h, hm, F.kp, F.binds bd⟩

/-! ### built-ins -/
def rLen (K : PySem.W.Frag) : List V → Hp → VK → Prop := fun xs H Q => ∃ x n, xs = [x] ∧ LenV K x H n ∧ Q (.int n) H
def rIsi (K : PySem.W.Frag) : List V → Hp → VK → Prop := fun xs H Q => ∃ x t n b, xs = [x, .ty n] ∧ TyOf K H x t ∧ PySem.W.kitOne K t (.type n) = some b ∧ Q (.bl b) H
def rIntOf : List V → Hp → VK → Prop := fun xs H Q => (∃ i, xs = [.int i] ∧ Q (.int i) H) ∨ ∃ k, xs = [.bl k] ∧ Q (.int (if k then 1 else 0)) H
def rAbs : List V → Hp → VK → Prop := fun xs H Q => ∃ i, xs = [.int i] ∧ Q (.int (if i < 0 then -i else i)) H
def rListOf (K : PySem.W.Frag) : List V → Hp → VK → Prop := fun xs H Q => ∃ p ys, xs = [.ref p] ∧ (SqL K H p ys ∨ SqT K H p ys) ∧ ∀ l, H l = none → Q (.ref l) (upd H l (.lst ys))
section
variable {X : Cx}
theorem call_lenN : CallR X (.builtin "len") (rLen X.K) := call_len
theorem call_intN : CallR X (.type "int") rIntOf := call_int1
theorem call_absN : CallR X (.builtin "abs") rAbs := call_abs
theorem call_listN : CallR X (.type "list") (rListOf X.K) := call_list_of
theorem call_isinstanceN : CallR X (.builtin "isinstance") (rIsi X.K) := by
  intro pins s σ H xs us Q I r h
  obtain ⟨x, t, n, b, rfl, ty, e, q⟩ := h
  obtain ⟨u, c, rfl, rx, rc⟩ := vals2 r
  cases (show c = Value.type n from rc)
  exact isinst_ok I rx ty e fun tk => ⟨.bl b, H, I.tok tk, rfl, q⟩
end
section
variable {K : PySem.W.Frag} {σ : St} {H : Hp} {Q : VK}
theorem i_len {p : Addr} {xs : List V} (h : SqL K H p xs) (q : Q (.int xs.length) H) : rLen K [.ref p] H Q := ⟨_, _, rfl, .inl ⟨xs, h, rfl⟩, q⟩
theorem i_lenI {p : Addr} {ns : List Int} (h : SqL K H p (iL ns)) (q : Q (.int ns.length) H) : rLen K [.ref p] H Q := ⟨_, _, rfl, .inl ⟨_, h, rfl⟩, by simpa [iL] using q⟩
theorem i_intB {k : Bool} (q : Q (.int (if k then 1 else 0)) H) : rIntOf [.bl k] H Q := .inr ⟨k, rfl, q⟩
theorem i_abs {i : Int} (q : Q (.int (if i < 0 then -i else i)) H) : rAbs [.int i] H Q := ⟨i, rfl, q⟩
theorem i_listL {p : Addr} {ys : List V} (h : SqL K H p ys) (q : ∀ l, H l = none → Q (.ref l) (upd H l (.lst ys))) : rListOf K [.ref p] H Q := ⟨p, ys, rfl, .inl h, q⟩
theorem isi_ii : PySem.W.kitOne K (.type "int") (.type "int") = some true := by kernel_rfl
theorem isi_ib : PySem.W.kitOne K (.type "int") (.type "bool") = some false := by kernel_rfl
theorem isi_ll : PySem.W.kitOne K (.type "list") (.type "list") = some true := by kernel_rfl
theorem isi_il : PySem.W.kitOne K (.type "int") (.type "list") = some false := by kernel_rfl
theorem isi_id : PySem.W.kitOne K (.type "int") (.type "dict") = some false := by kernel_rfl
theorem isi_it : PySem.W.kitOne K (.type "int") (.type "tuple") = some false := by kernel_rfl
theorem isi_bb : PySem.W.kitOne K (.type "bool") (.type "bool") = some true := by kernel_rfl
theorem i_isiII {i : Int} (q : Q (.bl true) H) : rIsi K [.int i, .ty "int"] H Q := ⟨_, _, _, true, rfl, .int i, isi_ii, q⟩
theorem i_isiIB {i : Int} (q : Q (.bl false) H) : rIsi K [.int i, .ty "bool"] H Q := ⟨_, _, _, false, rfl, .int i, isi_ib, q⟩
theorem i_isiIL {i : Int} (q : Q (.bl false) H) : rIsi K [.int i, .ty "list"] H Q := ⟨_, _, _, false, rfl, .int i, isi_il, q⟩
theorem i_isiID {i : Int} (q : Q (.bl false) H) : rIsi K [.int i, .ty "dict"] H Q := ⟨_, _, _, false, rfl, .int i, isi_id, q⟩
theorem i_isiIT {i : Int} (q : Q (.bl false) H) : rIsi K [.int i, .ty "tuple"] H Q := ⟨_, _, _, false, rfl, .int i, isi_it, q⟩
theorem i_isiBB {b : Bool} (q : Q (.bl true) H) : rIsi K [.bl b, .ty "bool"] H Q := ⟨_, _, _, true, rfl, .bl b, isi_bb, q⟩
theorem i_isiLL {a : Addr} {xs : List V} (h : H a = some (.lst xs)) (q : Q (.bl true) H) : rIsi K [.ref a, .ty "list"] H Q := ⟨_, _, _, true, rfl, .lst h, isi_ll, q⟩
end

/-! ### tests, sizes -/
theorem i_if {p : Prop} [Decidable p] {A B : Prop} (h1 : p → A) (h2 : ¬ p → B) : if decide p = true then A else B := by
  by_cases h : p
  · rw [decide_eq_true h]; exact iteT (h1 h)
  · rw [decide_eq_false h]; exact iteF (h2 h)
theorem i_ifn {p : Prop} [Decidable p] {A B : Prop} (h1 : ¬ p → A) (h2 : p → B) : if (!decide p) = true then A else B := by
  by_cases h : p
  · rw [decide_eq_true h]; exact iteF (h2 h)
  · rw [decide_eq_false h]; exact iteT (h1 h)
theorem iteNT {A B : Prop} (h : B) : if (!true) = true then A else B := iteF h
theorem iteNF {A B : Prop} (h : A) : if (!false) = true then A else B := iteT h
theorem szl {n : Nat} (h : n ≤ 100000) : n ≤ sizeLine := Nat.le_trans h (by rw [sizeLine_eq]; decide)
theorem szlt {n : Nat} (h : n ≤ 100000) : n < sizeLine := Nat.lt_of_le_of_lt h (by rw [sizeLine_eq]; decide)
theorem same_upd {H : Hp} {l : Addr} {o : HO} (h : H l = none) : Same H (upd H l o) := fun b u e => by rw [upd_ne (ne_of_none e h)]; exact e
/-- all but one address as it was -/
def SameBut (l : Addr) (H H' : Hp) : Prop := ∀ b o, b ≠ l → H b = some o → H' b = some o
theorem cmul_l {i j : Int} (h1 : -(2 ^ 64) < i) (h2 : i < 2 ^ 64) : CMul i j := .inl ⟨h1, h2⟩
theorem cmul_r {i j : Int} (h1 : -(2 ^ 64) < j) (h2 : j < 2 ^ 64) : CMul i j := .inr ⟨h1, h2⟩
end L2

namespace L2
open PySem PySem.Spec PyProof.Rows
theorem bt_int : bootBuiltins "int" = some (.type "int") := by first | exact PySem.boot_int | exact PySem.Pv.boot_int | exact PyProof.Rows.boot_int
theorem bt_bool : bootBuiltins "bool" = some (.type "bool") := by first | exact PySem.boot_bool | exact PySem.Pv.boot_bool | exact PyProof.Rows.boot_bool
theorem bt_list : bootBuiltins "list" = some (.type "list") := by first | exact PySem.boot_list | exact PySem.Pv.boot_list | exact PyProof.Rows.boot_list
theorem bt_tuple : bootBuiltins "tuple" = some (.type "tuple") := by first | exact PySem.boot_tuple | exact PySem.Pv.boot_tuple | exact PyProof.Rows.boot_tuple
theorem bt_isinstance : bootBuiltins "isinstance" = some (.builtin "isinstance") := by first | exact PySem.boot_isinstance | exact PySem.Pv.boot_isinstance | exact PyProof.Rows.boot_isinstance
theorem bt_min : bootBuiltins "min" = some (.builtin "min") := by first | exact PySem.boot_min | exact PySem.Pv.boot_min | exact PyProof.Rows.boot_min
theorem bt_max : bootBuiltins "max" = some (.builtin "max") := by first | exact PySem.boot_max | exact PySem.Pv.boot_max | exact PyProof.Rows.boot_max
theorem bt_sum : bootBuiltins "sum" = some (.builtin "sum") := by first | exact PySem.boot_sum | exact PySem.Pv.boot_sum | exact PyProof.Rows.boot_sum
theorem bt_abs : bootBuiltins "abs" = some (.builtin "abs") := by first | exact PySem.boot_abs | exact PySem.Pv.boot_abs | exact PyProof.Rows.boot_abs
theorem bt_len : bootBuiltins "len" = some (.builtin "len") := by first | exact PySem.boot_len | exact PySem.Pv.boot_len | exact PyProof.Rows.boot_len
section
variable {X : Cx} {pos p1 p2 : Pos} {k1 k2 : Nat}
theorem pe_powK {i j r : Int} (h : 0 ≤ j ∧ j ≤ 1000000 ∧ i.natAbs < 2 ^ 64 ∧ i ^ j.toNat = r) : PE X (.BinOp (.Constant (.int i) k1 p1) .Pow (.Constant (.int j) k2 p2) pos) (tC (.int r)) := by
  intro pins s σ H Q I q
  refine pe_op op_pow pe_int pe_int pins s σ H Q I ?_
  exact ⟨i, j, rfl, rfl, ⟨h.1, h.2.1, h.2.2.1⟩, by have e := h.2.2.2; subst e; exact q⟩
theorem pe_negK {i r : Int} (h : -i = r) : PE X (.UnaryOp .USub (.Constant (.int i) k1 p1) pos) (tC (.int r)) := by
  intro pins s σ H Q I q
  refine pe_un un_neg pe_int pins s σ H Q I ?_
  exact ⟨i, rfl, by subst h; exact q⟩
end
section
variable {K : PySem.W.Frag} {σ : St} {H : Hp} {Q : VK} {i j : Int}
theorem i_div (h0 : 0 < j) (h1 : j < 1073741824) (q : Q (.int (i / j)) H) : rI CDiv (fun i j => .int (i / j)) (.int i) (.int j) H Q := ⟨i, j, rfl, rfl, ⟨h0, h1⟩, q⟩
theorem i_mod (h0 : 0 < j) (q : Q (.int (i % j)) H) : rI (fun _ j => 0 < j) (fun i j => .int (i % j)) (.int i) (.int j) H Q := ⟨i, j, rfl, rfl, h0, q⟩
theorem i_app {l : Addr} {xs : List V} {y : V} (h : H l = some (.lst xs)) (hl : xs.length < sizeLine) (q : Q .non (upd H l (.lst (xs ++ [y])))) : rAppend (.ref l) [y] H Q := ⟨l, xs, y, rfl, rfl, h, hl, q⟩
end
end L2

namespace L2
open PySem PySem.Spec PyProof.Rows
/-! ### loops, kept folded -/
def LoopI (J : It) (g : TG) (tb : TS) (D : Ends) (σ : St) (H1 : Hp) : Prop := ∃ W : Nat → Nat → St → Hp → Prop, (∃ m, W 0 m σ H1) ∧ ∀ i m σ H, W i m σ H →
  (J.stop i H ∧ D.nx σ H) ∨ (J.go i H ∧ ∃ N : St → Hp → Prop, (∀ σ' H', N σ' H' → ∃ m', m' < m ∧ W (i + 1) m' σ' H') ∧ ∀ x H', J.yld i H x H' → g x σ H' fun σ2 H2 => tb { D with nx := N, ct := N, bk := D.nx } σ2 H2)
theorem tFor_eq (wi : TI) (g : TG) (tb : TS) : tFor wi g tb = fun D σ H => wi σ H fun J H1 => LoopI J g tb D σ H1 := rfl
theorem lp_list {K : PySem.W.Frag} {a : Addr} {xs : List V} {g : TG} {tb : TS} {D : Ends} {σ : St} {H : Hp} (Pv : Nat → St → Hp → Prop) (h0 : Pv 0 σ H) (hl : ∀ i σ H, i ≤ xs.length → Pv i σ H → SqL K H a xs)
    (hs : ∀ i x σ H, xs[i]? = some x → Pv i σ H → g x σ H fun σ2 H2 => tb { D with nx := Pv (i + 1), ct := Pv (i + 1), bk := D.nx } σ2 H2) (hd : ∀ σ H, Pv xs.length σ H → D.nx σ H) : LoopI (Itl K a) g tb D σ H := for_list Pv h0 hl hs hd
theorem lp_ints {K : PySem.W.Frag} {a : Addr} {ns : List Int} {g : TG} {tb : TS} {D : Ends} {σ : St} {H : Hp} (Pv : Nat → St → Hp → Prop) (h0 : Pv 0 σ H) (hl : ∀ i σ H, i ≤ ns.length → Pv i σ H → SqL K H a (iL ns))
    (hs : ∀ i x σ H, ns[i]? = some x → Pv i σ H → g (.int x) σ H fun σ2 H2 => tb { D with nx := Pv (i + 1), ct := Pv (i + 1), bk := D.nx } σ2 H2) (hd : ∀ σ H, Pv ns.length σ H → D.nx σ H) : LoopI (Itl K a) g tb D σ H := by
  have e : (iL ns).length = ns.length := by simp [iL]
  refine for_list (xs := iL ns) Pv h0 (fun i σ H h p => hl i σ H (by rw [e] at h; exact h) p) (fun i x σ H hx p => ?_) (fun σ H p => hd σ H (by rw [e] at p; exact p))
  rw [List.getElem?_map] at hx
  cases q : ns[i]? with
  | none => rw [q] at hx; cases hx
  | some z =>
    rw [q] at hx
    cases hx
    exact hs i z σ H q p
theorem lp_range {lo : Int} {n : Nat} {g : TG} {tb : TS} {D : Ends} {σ : St} {H : Hp} (Pv : Nat → St → Hp → Prop) (h0 : Pv 0 σ H)
    (hs : ∀ i σ H, i < n → Pv i σ H → g (.int (lo + i)) σ H fun σ2 H2 => tb { D with nx := Pv (i + 1), ct := Pv (i + 1), bk := D.nx } σ2 H2) (hd : ∀ σ H, Pv n σ H → D.nx σ H) : LoopI (Itr lo n) g tb D σ H := for_range Pv h0 hs hd
theorem i_truB {K : PySem.W.Frag} {b : Bool} {H : Hp} {Q : Bool → Hp → Prop} (q : Q b H) : rTru K (.bl b) H Q := ⟨b, rfl, q⟩
end L2

namespace L2
open PySem PySem.Spec PyProof.Rows
/-! ### [a, b, ..][i]: the list is not tracked -/
def rMenu (xs : List V) (y : V) (H : Hp) (Q : VK) : Prop := ∃ i v, y = .int i ∧ atI xs i = some v ∧ Q v H
def tMenu (t : TA) (ti : TE) : TE := fun σ H Q => t σ H fun xs H1 => xs.length ≤ sizeLine ∧ ti σ H1 fun y H2 => rMenu xs y H2 Q
section
variable {X : Cx} {es : List Expr} {b : Expr} {t : TA} {tb : TE} {p1 pos : Pos}
theorem item_raw {X : Cx} {value slice : Expr} {pins : List (Addr × Obj)} {s : Shared} {σ : St} {H : Hp} {p : Addr} {its : List Value} {xs : List V} {i : Int} {tk : Tok} {z : V} {Q : VK} (I : Inv X pins σ H s) (r : Vals xs its) (hz : xs.length ≤ sizeLine)
    (pl : s.heap.IsList p its.toArray) (he : atI xs i = some z) (q : Q z H) (hs : subscripted slice false (.ref p) (.int i tk) = operate [.ref p, .int i tk] (getItem (.ref p) (.int i tk))) :
    wpAny (model X.prog X.w) X.A (subscriptTail value slice (.ref p) (.int i tk)) (EP X pins σ Q) X.xe s := by
  obtain ⟨j, h1, h2, h3, h4, h5⟩ := atI_get he
  obtain ⟨w, ew, rw'⟩ := r.get h2
  have hl := r.length
  have hn := line63
  have fin : EP X pins σ Q w s := ⟨z, H, I, rw', q⟩
  by_cases h0 : 0 ≤ i
  · have hj : i.toNat = j := by
      rw [seqIndex_of h0 h5] at h1
      exact Option.some.inj h1
    exact item_listR pl h0 (by omega) (by rw [hj]; simpa using ew) fin hs
  · have hj : (i + (its.toArray.size : Int)).toNat = j := by
      rw [seqIndex_neg (by omega) h4] at h1
      rw [List.size_toArray, ← hl]
      exact Option.some.inj h1
    exact subscriptTail_builtinR (x := w) pl.typeIs slot_list_getitem.lookup
      (wpAny_getItem_list_neg (Q := fun r s' => r = w ∧ EP X pins σ Q r s') pl (by omega) (by rw [List.size_toArray] <;> omega) (by omega) (by rw [hj]; simpa using ew) ⟨rfl, fin⟩) hs
theorem pe_menu (h : PA X es t) (hb : PE X b tb) (hs : PlainIx b) : PE X (.Subscript (.List es p1) b pos) (tMenu t tb) := by
  intro pins s σ H Q I hq
  refine Subscript_ (wpAny_List_spliced (thn (h p1 pins s σ H _ I hq) fun us s1 ⟨xs, H1, I1, r, z, q⟩ => ⟨by rw [← r.length]; exact z, ?_⟩))
  have hf : H1 s1.heap.objs.size = none := I1.hok.fresh (Nat.le_refl _)
  have I2 := I1.kept (t' := s1.toks) (h' := s1.heap.push { cls := .type "list", data := .seq us.toArray 0 }) (fun b u e => Heap.get?_push_of_some _ e)
  have I3 := I2.pins_of (pins' := pins ++ [(s1.heap.objs.size, { cls := .type "list", data := .seq us.toArray 0 })]) (fun p hp => by
    rcases List.mem_append.mp hp with hp | hp
    · exact I2.pin p (List.mem_append_right _ hp)
    · have e : p = (s1.heap.objs.size, ({ cls := .type "list", data := .seq us.toArray 0 } : Obj)) := by simpa using hp
      subst e
      refine ⟨Heap.get?_push_size _ rfl, hf, Nat.ne_of_gt I1.lt, I1.nofs (Nat.le_refl _), fun v e => ?_⟩
      have e' : Data.seq us.toArray 0 = Data.cell v := e
      cases e')
  refine thn (hb _ _ σ H1 _ I3 q) fun u s2 ⟨y, H2, I4, r4, i, v, hy, hv, qq⟩ => ?_
  subst hy
  obtain ⟨tk, rfl⟩ := r4
  have pn := (I4.pin (s1.heap.objs.size, { cls := .type "list", data := .seq us.toArray 0 }) (by simp)).1
  exact item_raw I4.unpinned r z ⟨_, pn, rfl, _, rfl⟩ hv qq (hs _ _)
end
section
variable {H : Hp} {Q : VK} {i : Int}
theorem i_menu2 {xa xb : Int} (h0 : 0 ≤ i) (h1 : i < 2) (q : ∀ z, (i = 0 ∧ z = xa) ∨ (i = 1 ∧ z = xb) → Q (.int z) H) : rMenu [.int xa, .int xb] (.int i) H Q := by
  have hi : i = 0 ∨ i = 1 := by omega
  rcases hi with h | h
  · subst h; exact ⟨0, _, rfl, rfl, q _ (by simp)⟩
  · subst h; exact ⟨1, _, rfl, rfl, q _ (by simp)⟩
theorem i_menu3 {xa xb xc : Int} (h0 : 0 ≤ i) (h1 : i < 3) (q : ∀ z, (i = 0 ∧ z = xa) ∨ (i = 1 ∧ z = xb) ∨ (i = 2 ∧ z = xc) → Q (.int z) H) : rMenu [.int xa, .int xb, .int xc] (.int i) H Q := by
  have hi : i = 0 ∨ i = 1 ∨ i = 2 := by omega
  rcases hi with h | h | h
  · subst h; exact ⟨0, _, rfl, rfl, q _ (by simp)⟩
  · subst h; exact ⟨1, _, rfl, rfl, q _ (by simp)⟩
  · subst h; exact ⟨2, _, rfl, rfl, q _ (by simp)⟩
theorem i_menu4 {xa xb xc xd : Int} (h0 : 0 ≤ i) (h1 : i < 4) (q : ∀ z, (i = 0 ∧ z = xa) ∨ (i = 1 ∧ z = xb) ∨ (i = 2 ∧ z = xc) ∨ (i = 3 ∧ z = xd) → Q (.int z) H) : rMenu [.int xa, .int xb, .int xc, .int xd] (.int i) H Q := by
  have hi : i = 0 ∨ i = 1 ∨ i = 2 ∨ i = 3 := by omega
  rcases hi with h | h | h | h
  · subst h; exact ⟨0, _, rfl, rfl, q _ (by simp)⟩
  · subst h; exact ⟨1, _, rfl, rfl, q _ (by simp)⟩
  · subst h; exact ⟨2, _, rfl, rfl, q _ (by simp)⟩
  · subst h; exact ⟨3, _, rfl, rfl, q _ (by simp)⟩
end
theorem cxOf_K (CX : CXT) (P : Program) (w : World) (K : PySem.W.Frag) (mg : Str → Option Value) (base : Heap) (N : List Str) (qual : Str) (scope : Scope) (f : Addr) (cd : Value) (A : Around) (outer : List Env) (s : Shared) (H : Hp) (E : XK) : (cxOf CX P w K mg base N qual scope f cd A outer s H E).K = K := rfl
end L2

namespace L2
open PySem PySem.Spec PyProof.Rows
/-! ### a statement with a word behind it: what follows is read once -/
def tJoin (t u : TS) : TS := fun D σ H => ∃ Pj : St → Hp → Prop, t { D with nx := Pj } σ H ∧ ∀ σ' H', Pj σ' H' → u D σ' H'
theorem pss_join {X : Cx} {st : Stmt} {rest : List Stmt} {t u : TS} (h1 : PS X st t) (h2 : PSs X rest u) : PSs X (st :: rest) (tJoin t u) := by
  intro pins s σ H D I h
  obtain ⟨Pj, ht, hu⟩ := h
  refine wpAny_execs_cons (thn (h1 pins s σ H _ I ht) fun f s1 q => ?_)
  cases f with
  | next =>
    obtain ⟨σ1, H1, I1, q1⟩ := q
    exact h2 pins s1 σ1 H1 D I1 (hu _ _ q1)
  | brk => exact q
  | cont => exact q
  | ret u => exact q
end L2

namespace L2
open PySem PySem.Spec PyProof.Rows
/-! ### slices of lists of ints -/
theorem take_min {α : Type} (xs : List α) (k : Nat) : xs.take (min k xs.length) = xs.take k := by
  by_cases h : k ≤ xs.length
  · rw [Nat.min_eq_left h]
  · rw [Nat.min_eq_right (by omega), List.take_of_length_le (by omega), List.take_of_length_le (by omega)]
theorem drop_min {α : Type} (xs : List α) (k : Nat) : xs.drop (min k xs.length) = xs.drop k := by
  by_cases h : k ≤ xs.length
  · rw [Nat.min_eq_left h]
  · rw [Nat.min_eq_right (by omega), List.drop_of_length_le (by omega), List.drop_of_length_le (by omega)]
theorem sIx_pos (n d : Nat) {b : Int} (h : 0 ≤ b) : HT.sIx n d (some b) = min b.toNat n := by
  have := HT.sIx_nat n d b.toNat
  rwa [Int.toNat_of_nonneg h] at this
theorem cut_to {xs : List V} {b : Int} (h : 0 ≤ b) : cutV xs none (some b) = xs.take b.toNat := by
  unfold cutV
  rw [HT.sIx_none, sIx_pos _ _ h, Nat.sub_zero, List.drop_zero, take_min]
theorem cut_from {xs : List V} {a : Int} (h : 0 ≤ a) : cutV xs (some a) none = xs.drop a.toNat := by
  unfold cutV
  rw [HT.sIx_none, sIx_pos _ _ h, drop_min, List.take_of_length_le]
  rw [List.length_drop]; omega
theorem cut_mid {xs : List V} {a b : Int} (h : 0 ≤ a) (h2 : 0 ≤ b) : cutV xs (some a) (some b) = (xs.drop a.toNat).take (b.toNat - a.toNat) := by
  unfold cutV
  rw [sIx_pos _ _ h, sIx_pos _ _ h2, drop_min]
  by_cases e : b.toNat ≤ xs.length
  · by_cases e2 : a.toNat ≤ xs.length
    · rw [Nat.min_eq_left e, Nat.min_eq_left e2]
    · rw [List.drop_of_length_le (by omega)]; simp
  · rw [Nat.min_eq_right (by omega)]
    by_cases e2 : a.toNat ≤ xs.length
    · rw [Nat.min_eq_left e2, List.take_of_length_le (by rw [List.length_drop]; omega), List.take_of_length_le (by rw [List.length_drop]; omega)]
    · rw [List.drop_of_length_le (by omega)]; simp
section
variable {K : PySem.W.Frag} {H : Hp} {Q : VK} {a : Addr} {ns : List Int}
theorem i_slTo {b : Int} (h : SqL K H a (iL ns)) (hb : 0 ≤ b) (q : ∀ p, H p = none → Q (.ref p) (upd H p (.lst (iL (ns.take b.toNat))))) : rSlL K (.ref a) none (some b) H Q :=
  ⟨a, _, rfl, h, fun p hp => by rw [cut_to hb, ← List.map_take]; exact q p hp⟩
theorem i_slFrom {b : Int} (h : SqL K H a (iL ns)) (hb : 0 ≤ b) (q : ∀ p, H p = none → Q (.ref p) (upd H p (.lst (iL (ns.drop b.toNat))))) : rSlL K (.ref a) (some b) none H Q :=
  ⟨a, _, rfl, h, fun p hp => by rw [cut_from hb, ← List.map_drop]; exact q p hp⟩
theorem i_slMid {b c : Int} (h : SqL K H a (iL ns)) (hb : 0 ≤ b) (hc : 0 ≤ c) (q : ∀ p, H p = none → Q (.ref p) (upd H p (.lst (iL ((ns.drop b.toNat).take (c.toNat - b.toNat)))))) : rSlL K (.ref a) (some b) (some c) H Q :=
  ⟨a, _, rfl, h, fun p hp => by rw [cut_mid hb hc, ← List.map_drop, ← List.map_take]; exact q p hp⟩
end
end L2

set_option Elab.async false
set_option linter.all false
set_option maxRecDepth 100000
namespace L2
open PySem PySem.Spec PyProof.Rows

/-! ### an untracked list of ours is tracked from now on -/
theorem Inv.track {X : Cx} {pins : List (Addr × Obj)} {σ : St} {H : Hp} {s : Shared} {D : Addr} {o : HO} (I : Inv X pins σ H s) (hn : H D = none) (hL : D ≠ X.env.locals) (h1 : X.s₀.heap.objs.size ≤ D)
    (h2 : ∀ x c, X.env.cells.lookup x = some c → c ≠ D) (h3 : ∀ p ∈ X.pn ++ pins, p.1 ≠ D) (new : ObjOk X.prog X.w (upd H D o) s.heap D o) : Inv X pins σ (upd H D o) s := by
  have up : ∀ b u, H b = some u → upd H D o b = some u := fun b u e => by rw [upd_ne (ne_of_none e hn)]; exact e
  have un : ∀ b, b ≠ D → H b = none → upd H D o b = none := fun b hb e => by rw [upd_ne hb]; exact e
  refine ⟨I.ok, I.os, I.bare, ⟨I.base.keep, I.base.slot, fun b ob e n hx => un b (Nat.ne_of_lt (Nat.lt_of_lt_of_le (Heap.lt_size e) h1)) (I.base.free b ob e n hx), I.base.there, fun b xs e => up _ _ (I.base.tups b xs e), fun b ob u e => up _ _ (I.base.frzs b ob u e), fun b ps e => ?_⟩,
    I.loc, I.cell, un _ (Ne.symm hL) I.free, fun x c e => un _ (h2 x c e) (I.freeC x c e), fun p hp => ?_, fun b u e => ?_, I.len⟩
  · obtain ⟨m, e'⟩ := I.base.tbls b ps e
    exact ⟨m, up _ _ e'⟩
  · obtain ⟨e, n, r⟩ := I.pin p hp
    exact ⟨e, un _ (h3 p hp) n, r⟩
  · by_cases hb : b = D
    · subst hb
      rw [upd_same] at e
      cases e
      exact new
    · rw [upd_ne hb] at e
      exact (I.hok b u e).stay (fun _ _ _ q => q) (fun c q => up _ _ q) fun c xs q => up _ _ q

/-! ### the closure of a comprehension's block -/
def clOf (env : Env) : List (Str × NameKind) → List (Str × Addr) → List (Str × Addr)
  | [], acc => acc
  | (n, k) :: r, acc => clOf env r (if (k == .free) = true then (n, (env.cells.lookup n).getD 0) :: acc else acc)
theorem closure_go {env : Env} : ∀ (names : List (Str × NameKind)) (acc : List (Str × Addr)), (∀ y ∈ names, y.2 = .free → ∃ c, env.cells.lookup y.1 = some c) →
    (forIn names acc fun (x : Str × NameKind) (r : List (Str × Addr)) => match x with
      | (name, kind) => if (kind == .free) = true then do
          let a ← cellOf env name
          pure (ForInStep.yield ((name, a) :: r))
        else pure (ForInStep.yield r) : Sem (List (Str × Addr))) = pure (clOf env names acc)
  | [], acc, _ => rfl
  | (n, k) :: r, acc, h => by
    rw [List.forIn_cons, clOf]
    by_cases hk : (k == NameKind.free) = true
    · obtain ⟨c, hc⟩ := h (n, k) (List.mem_cons_self) (by simpa using hk)
      have hc' : env.cells.lookup n = some c := hc
      simp only [hk, if_true, cellOf, hc', Option.getD_some]
      exact closure_go r _ fun y hy => h y (List.mem_cons_of_mem _ hy)
    · simp only [hk, Bool.false_eq_true, if_false]
      exact closure_go r _ fun y hy => h y (List.mem_cons_of_mem _ hy)
theorem closure_eq {env : Env} {scope : Scope} (h : ∀ y ∈ scope.names, y.2 = .free → ∃ c, env.cells.lookup y.1 = some c) : closureFor scope env = pure (clOf env scope.names []) := by
  have q := closure_go scope.names [] h
  unfold closureFor
  exact (congrArg (fun z => z >>= fun r => pure r) q).trans rfl
theorem clOf_get {env : Env} {x : Str} {c : Addr} : ∀ (names : List (Str × NameKind)) (acc : List (Str × Addr)), (∀ y ∈ names, y.2 = .free → ∃ c, env.cells.lookup y.1 = some c) → (∀ x c, acc.lookup x = some c → env.cells.lookup x = some c) →
    (clOf env names acc).lookup x = some c → env.cells.lookup x = some c
  | [], acc, _, ha, e => ha x c e
  | (n, k) :: r, acc, h, ha, e => by
    rw [clOf] at e
    refine clOf_get r _ (fun y hy => h y (List.mem_cons_of_mem _ hy)) ?_ e
    intro y d hd
    by_cases hk : (k == NameKind.free) = true
    · rw [if_pos hk] at hd
      obtain ⟨c', hc⟩ := h (n, k) List.mem_cons_self (by simpa using hk)
      have hc' : env.cells.lookup n = some c' := hc
      rw [List.lookup_cons] at hd
      cases hy : y == n with
      | true =>
        rw [hy] at hd
        have e1 : y = n := by simpa using hy
        subst e1
        rw [hc'] at hd ⊢
        exact hd
      | false =>
        rw [hy] at hd
        exact ha y d hd
    · rw [if_neg hk] at hd
      exact ha y d hd
theorem clOf_has {env : Env} {x : Str} : ∀ (names : List (Str × NameKind)) (acc : List (Str × Addr)), ((x, NameKind.free) ∈ names ∨ ∃ c, acc.lookup x = some c) → ∃ c, (clOf env names acc).lookup x = some c
  | [], acc, h => by
    rcases h with h | h
    · exact absurd h (by simp)
    · exact h
  | (n, k) :: r, acc, h => by
    rw [clOf]
    refine clOf_has r _ ?_
    rcases h with h | ⟨c, h⟩
    · rcases List.mem_cons.mp h with e | e
      · cases e
        exact .inr ⟨_, by rw [if_pos (by rfl), List.lookup_cons, beq_self_eq_true]⟩
      · exact .inl e
    · refine .inr ?_
      by_cases hk : (k == NameKind.free) = true
      · rw [if_pos hk, List.lookup_cons]
        cases x == n with
        | true => exact ⟨_, rfl⟩
        | false => exact ⟨c, h⟩
      · rw [if_neg hk]; exact ⟨c, h⟩
/-- what a relabelled scope says of a name -/
theorem relabel_get {scope : Scope} {env : Env} {x : Str} {k : NameKind} (h : (relabel scope env).names.lookup x = some k) : (x, k) ∈ scope.names ∨ (k = .cell ∧ (x, NameKind.free) ∈ scope.names) := by
  have m := PySem.mem_of_lookup h
  unfold relabel at m
  obtain ⟨⟨n, k0⟩, hm, e⟩ := List.mem_map.mp m
  dsimp only at e
  split at e
  · rename_i hc
    cases e
    have : k0 = .free := by
      have := (Bool.and_eq_true _ _ ▸ (Bool.and_eq_true _ _ ▸ hc).1 : _ ∧ _).1
      simpa using this
    subst this
    exact .inr ⟨rfl, hm⟩
  · cases e
    exact .inl hm

theorem relabel_freeN {env : Env} : ∀ {names : List (Str × NameKind)} {x : Str}, names.lookup x = some .free →
    (names.map fun (n, k) => if (k == NameKind.free && env.scope.kind == .function && env.kindOf n == some .cell) then (n, NameKind.cell) else (n, k)).lookup x = some .cell ∨
    (names.map fun (n, k) => if (k == NameKind.free && env.scope.kind == .function && env.kindOf n == some .cell) then (n, NameKind.cell) else (n, k)).lookup x = some .free
  | [], _, h => by simp at h
  | (n, k) :: r, x, h => by
    have ih := @relabel_freeN env r x
    show List.lookup x ((if (k == NameKind.free && env.scope.kind == .function && env.kindOf n == some .cell) = true then (n, NameKind.cell) else (n, k)) :: _) = _ ∨ List.lookup x ((if (k == NameKind.free && env.scope.kind == .function && env.kindOf n == some .cell) = true then (n, NameKind.cell) else (n, k)) :: _) = _
    cases hx : x == n with
    | true =>
      simp only [List.lookup_cons, hx] at h
      cases h
      by_cases hc : (NameKind.free == NameKind.free && env.scope.kind == .function && env.kindOf n == some .cell) = true
      · rw [if_pos hc]; left; simp [List.lookup_cons, hx]
      · rw [if_neg hc]; right; simp [List.lookup_cons, hx]
    | false =>
      simp only [List.lookup_cons, hx] at h
      by_cases hc : (k == NameKind.free && env.scope.kind == .function && env.kindOf n == some .cell) = true
      · rw [if_pos hc]; simp only [List.lookup_cons, hx]; exact ih h
      · rw [if_neg hc]; simp only [List.lookup_cons, hx]; exact ih h
theorem relabel_free {scope : Scope} {env : Env} {x : Str} (h : scope.names.lookup x = some .free) : (relabel scope env).names.lookup x = some .cell ∨ (relabel scope env).names.lookup x = some .free := relabel_freeN h

/-! ### the block's context -/
def cxC (X : Cx) (scope : Scope) (C : Addr) (N : List Str) (s₂ : Shared) (H₂ : Hp) (ex : List Addr) : Cx :=
  { X with N := N, s₀ := s₂, H₀ := H₂, env := compEnvC scope (clOf X.env scope.names []) C X.env, outer := X.stack, stack := X.stack, ex := ex, fn := fun _ => false, pn := [], xe := fun _ _ => False }
/-- the names: a slot of the def's for each that is free in the block -/
def FrOk (X : Cx) (scope : Scope) : List Str → List (Option Nat) → Prop
  | [], [] => True
  | _ :: N, none :: fr => FrOk X scope N fr
  | x :: N, some j :: fr => (X.N[j]? = some x ∧ (X.env.kindOf x = some .cell ∨ X.env.kindOf x = some .free) ∧ scope.names.lookup x = some .free) ∧ FrOk X scope N fr
  | _, _ => False
def stC (fr : List (Option Nat)) (σ : St) : St := fr.map fun o => o.bind fun j => (σ[j]?).join
structure CompOk (X : Cx) (scope : Scope) (N : List Str) (fr : List (Option Nat)) : Prop where
  kind : scope.kind = .function
  ncell : ∀ y ∈ scope.names, y.2 ≠ .cell
  names : ∀ y ∈ scope.names, y.2 = .local → scope.names.lookup y.1 = some .local
  frees : ∀ y ∈ scope.names, y.2 = .free → X.env.kindOf y.1 = some .cell ∨ X.env.kindOf y.1 = some .free
  fr : FrOk X scope N fr
theorem FrOk.len {X : Cx} {scope : Scope} : ∀ {N : List Str} {fr : List (Option Nat)}, FrOk X scope N fr → fr.length = N.length
  | [], [], _ => rfl
  | _ :: N, none :: fr, h => by simp [FrOk.len (N := N) (fr := fr) h]
  | _ :: N, some j :: fr, h => by simp [FrOk.len (N := N) (fr := fr) h.2]
  | [], _ :: _, h => h.elim
  | _ :: _, [], h => h.elim
theorem FrOk.get {X : Cx} {scope : Scope} : ∀ {N : List Str} {fr : List (Option Nat)} {i j : Nat} {x : Str}, FrOk X scope N fr → N[i]? = some x → fr[i]? = some (some j) → X.N[j]? = some x ∧ (X.env.kindOf x = some .cell ∨ X.env.kindOf x = some .free) ∧ scope.names.lookup x = some .free
  | [], _, i, j, x, h, e, _ => by simp at e
  | y :: N, [], _, _, _, h, _, _ => h.elim
  | y :: N, none :: fr, 0, j, x, h, e, e2 => by simp at e2
  | y :: N, none :: fr, i + 1, j, x, h, e, e2 => FrOk.get (N := N) (fr := fr) (i := i) h (by simpa using e) (by simpa using e2)
  | y :: N, some k :: fr, 0, j, x, h, e, e2 => by
    simp at e e2
    subst e e2
    exact h.1
  | y :: N, some k :: fr, i + 1, j, x, h, e, e2 => FrOk.get (N := N) (fr := fr) (i := i) h.2 (by simpa using e) (by simpa using e2)
theorem stC_get {fr : List (Option Nat)} {σ : St} {i : Nat} {v : V} (h : (stC fr σ)[i]? = some (some v)) : ∃ j, fr[i]? = some (some j) ∧ σ[j]? = some (some v) := by
  unfold stC at h
  rw [List.getElem?_map] at h
  cases e : fr[i]? with
  | none => rw [e] at h; cases h
  | some o =>
    rw [e] at h
    cases o with
    | none => cases h
    | some j =>
      refine ⟨j, rfl, ?_⟩
      have h' : (σ[j]?).join = some v := by simpa using h
      cases e2 : σ[j]? with
      | none => rw [e2] at h'; cases h'
      | some w => rw [e2] at h'; cases w with
        | none => cases h'
        | some z => cases h'; rfl
section
variable {X : Cx} {scope : Scope} {N : List Str} {fr : List (Option Nat)}
theorem CompOk.cells (c : CompOk X scope N fr) (ok : X.Ok) : ∀ y ∈ scope.names, y.2 = .free → ∃ c, X.env.cells.lookup y.1 = some c := fun y hy e => ok.has y.1 (c.frees y hy e)
theorem CompOk.get (c : CompOk X scope N fr) (ok : X.Ok) {x : Str} {a : Addr} (h : (clOf X.env scope.names []).lookup x = some a) : X.env.cells.lookup x = some a :=
  clOf_get scope.names [] (c.cells ok) (fun _ _ z => by simp at z) h
theorem comp_ok {pins : List (Addr × Obj)} {σ : St} {H : Hp} {s₂ : Shared} {C : Addr} {fp : List Addr} (c : CompOk X scope N fr) (I : Inv X pins σ H s₂) (hC : s₂.heap.objs.size ≤ C) (hfp : ∀ b ∈ fp, FpOk X pins H b ∧ b < s₂.heap.objs.size) :
    (cxC X scope C N s₂ H fp).Ok where
  mod := I.ok.mod
  kind := c.kind
  glob := I.ok.glob
  blt := I.ok.blt
  above := hC
  inj := fun x y a h1 h2 => I.ok.inj x y a (c.get I.ok h1) (c.get I.ok h2)
  has := fun x h => by
    have hm : (x, NameKind.free) ∈ scope.names := by
      rcases h with h | h
      · rcases relabel_get h with z | ⟨_, z⟩
        · exact absurd rfl (c.ncell _ z)
        · exact z
      · rcases relabel_get h with z | ⟨z, _⟩
        · exact z
        · cases z
    exact clOf_has scope.names [] (.inl hm)
  cab := fun x a h => by cases h
  hd := I.ok.hd
  frames := I.ok.frames
  stk := .inl rfl
  exf := fun b hb => ⟨Nat.ne_of_lt (Nat.lt_of_lt_of_le (hfp b hb).2 hC), fun x a h => (hfp b hb).1.2.2.2.2.1 x a (c.get I.ok h)⟩
  bs := I.bs
  bsz := Nat.le_trans I.ok.bsz I.sz
  noex := fun b o e hb => by
    rcases (hfp b hb).1.2.2.2.1 with z | z
    · exact I.ok.noex b o e z
    · have h1 : b < X.base.objs.size := Heap.lt_size e
      have h2 := I.ok.bsz
      exact absurd (Nat.lt_of_lt_of_le h1 (Nat.le_trans h2 z)) (Nat.lt_irrefl _)
  exfs := fun b hb z => by
    rcases List.mem_cons.mp (I.stkSub b z) with e | e
    · exact (hfp b hb).1.2.1 e
    · exact (hfp b hb).1.2.2.1 e
  funs := I.stack
  frf := I.stkFree
theorem comp_inv {pins : List (Addr × Obj)} {σ : St} {H : Hp} {s₂ : Shared} {C : Addr} {fp : List Addr} {h₄ : Heap} {tk : Nat} (c : CompOk X scope N fr) (I : Inv X pins σ H s₂) (hC : s₂.heap.objs.size ≤ C) (hfp : ∀ b ∈ fp, FpOk X pins H b ∧ b < s₂.heap.objs.size)
    (hk : ∀ b o, s₂.heap.get? b = some o → h₄.get? b = some o) (hn : h₄.Ns C fun _ => none) : Inv (cxC X scope C N s₂ H fp) [] (stC fr σ) H { s₂ with heap := h₄, toks := tk } := by
  refine ⟨comp_ok c I hC hfp, rfl, I.bare, Un.kept hk, ⟨_, hn, fun i x v e1 e2 e3 => ?_⟩, fun x a e => ?_, I.hok.fresh hC, fun x a e => I.freeC x a (c.get I.ok e), fun p hp => absurd (show p ∈ ([] : List (Addr × Obj)) from hp) (by simp), I.hok.kept hk, ?_⟩
  · obtain ⟨j, f1, f2⟩ := stC_get e2
    obtain ⟨g1, g2, g3⟩ := c.fr.get e1 f1
    obtain ⟨m, hm, hl⟩ := I.loc
    have vis : Vis X.env.scope x := by
      rcases g2 with g | g
      · exact .inr (.inl g)
      · exact .inr (.inr g)
    obtain ⟨u, ru, lk⟩ := hl j x v g1 f2 vis
    refine ⟨u, ru, ?_⟩
    rcases lk with ⟨k, _⟩ | ⟨_, a, ea, o, ho, hd⟩
    · rcases g2 with g | g <;> (rw [k] at g; cases g)
    · obtain ⟨a', ea'⟩ := clOf_has (env := X.env) scope.names [] (.inl (PySem.mem_of_lookup g3))
      have e5 := c.get I.ok ea'
      rw [ea] at e5
      cases e5
      have kd : (cxC X scope C N s₂ H fp).env.kindOf x = some .cell ∨ (cxC X scope C N s₂ H fp).env.kindOf x = some .free := relabel_free g3
      exact .inr ⟨kd, a, ea', o, hk _ _ ho, hd⟩
  · obtain ⟨v, o, ho, hd⟩ := I.cell x a (c.get I.ok e)
    exact ⟨v, o, hk _ _ ho, hd⟩
  · unfold stC
    rw [List.length_map]
    exact c.fr.len
end

section
variable {prog : Program} {w : World} {A : Around} {E : Value → Shared → Prop} {R : Result → Shared → Prop} {s : Shared}
/-- a turn of the block's loop, whatever the target is -/
theorem compLoop_any {elt target iter : Expr} {ifs : List Expr} {scope : Scope} {pos : Pos} {it acc : Value} {env : Env} (I : Nat → Shared → Prop)
    (turn : ∀ n s, I n s → wpAny (model prog w) A (pyNext it) (fun r s₁ => match r with
      | none => R (.ok .next) s₁
      | some v => wpAny (model prog w) A (letOwnedTupleGo target it v) (fun _ s₀ => wpAny (model prog w) A (assign target env v) (fun _ s₂ =>
          wpAny (model prog w) A (forIn ifs true fun c r => if r = true then do let ok ← isTrue c env (eval c env); pure (ForInStep.yield ok) else pure (ForInStep.yield r)) (fun ok s₃ =>
            if ok = true then wpAny (model prog w) A (eval elt env) (fun x s₄ =>
              wpAny (model prog w) A (call (.builtin "list.append") [acc, x]) (fun _ s₅ => ∃ m, m < n ∧ I m s₅) (fun _ _ => False) s₄) (fun _ _ => False) s₃
            else ∃ m, m < n ∧ I m s₃) (fun _ _ => False) s₂) (fun _ _ => False) s₀) (fun _ _ => False) s₁) (fun _ _ => False) s)
    (n : Nat) (h : I n s) :
    codeAny (model prog w) A (.compLoop (.ListComp elt [⟨target, iter, ifs, 0⟩] scope pos) 0 it acc env) R s := by
  refine codeAny_loop rfl I (fun n s hI => ?_) n h
  show wpAny _ A ((compTurn (.ListComp elt [⟨target, iter, ifs, 0⟩] scope pos) 0 it acc env).onRaise (fun x => do noteFrame x env; theTreesLotGoes x)) _ _ s
  refine wpAny_noted ?_
  rw [compTurn_list]
  have nf : ∀ {α : Type} {m : Sem α} {Q : α → Shared → Prop} {F : Value → Shared → Prop} {s : Shared}, wpAny (model prog w) A m Q (fun _ _ => False) s → wpAny (model prog w) A m Q F s := fun h => wpAny_mono h (fun _ _ x => x) fun _ _ x => x.elim
  refine wpAny_bind (wpAny_standAt (wpAny_bind (wpAny_mono (nf (turn n s hI)) (fun r s₁ h₁ => ?_) fun _ _ h' => h')))
  cases r with
  | none => exact wpAny_pure h₁
  | some v =>
    refine wpAny_bind (wpAny_mono (nf h₁) (fun _ s₀ h₀ => ?_) fun _ _ h' => h')
    refine wpAny_bind (wpAny_mono (nf h₀) (fun _ s₂ h₂ => wpAny_bind (wpAny_mono (nf h₂) (fun ok s₃ h₃ => ?_) fun _ _ h' => h')) fun _ _ h' => h')
    cases ok with
    | false => exact wpAny_pure ⟨rfl, h₃⟩
    | true =>
      exact wpAny_bind (wpAny_bind (wpAny_mono (nf h₃) (fun x s₄ h₄ => wpAny_bind (wpAny_mono (nf h₄) (fun _ s₅ h₅ => wpAny_pure (wpAny_pure ⟨rfl, h₅⟩)) fun _ _ h' => h')) fun _ _ h' => h'))
end

/-! ### targets that leave the free names -/
def Wk (fr : List (Option Nat)) (σ σ2 : St) : Prop := σ2.length = σ.length ∧ ∀ (i j : Nat), fr[i]? = some (some j) → σ2[i]? = σ[i]?
def GW (fr : List (Option Nat)) (g : TG) : Prop := ∀ x σ H (Q Q' : St → Hp → Prop), (∀ σ2 H2, Wk fr σ σ2 → Q σ2 H2 → Q' σ2 H2) → g x σ H Q → g x σ H Q'
def GWs (fr : List (Option Nat)) (g : TGs) : Prop := ∀ x σ H (Q Q' : St → Hp → Prop), (∀ σ2 H2, Wk fr σ σ2 → Q σ2 H2 → Q' σ2 H2) → g x σ H Q → g x σ H Q'
theorem gw_name {fr : List (Option Nat)} {i : Nat} (h : fr[i]? = some none) : GW fr (gName i) := fun x σ H Q Q' k q => by
  refine k _ _ ⟨by simp, fun a j e => ?_⟩ q
  have : i ≠ a := fun z => by subst z; rw [h] at e; cases e
  rw [List.getElem?_set_ne this]
/-! ### the tests -/
def PIfs (X : Cx) (ifs : List Expr) (t : TT) : Prop :=
  ∀ (pins : List (Addr × Obj)) (s : Shared) (σ : St) (H : Hp) (Q : Bool → Hp → Prop), Inv X pins σ H s → t σ H Q →
    wpAny (model X.prog X.w) X.A (forIn ifs true fun c r => if r = true then do let ok ← isTrue c X.env (eval c X.env); pure (ForInStep.yield ok) else pure (ForInStep.yield r)) (TP X pins σ Q) X.xe s
def tNoIf : TT := fun _ H Q => Q true H
theorem pifs_nil {X : Cx} : PIfs X [] tNoIf := fun _ _ _ H _ I h => wpAny_tests_nil ⟨H, I, h⟩
theorem pifs_one {X : Cx} {c : Expr} {t : TT} (h : PT X c t) : PIfs X [c] t := fun pins s σ H Q I q => wpAny_tests_one (h pins s σ H Q I q)

/-! ### the comprehension -/
def CompI (J : It) (g : TG) (ti : TT) (te : TE) (σc : St) (H1 : Hp) (Q : VK) : Prop := ∃ W : Nat → Nat → List V → Hp → Prop, (∃ m, W 0 m [] H1) ∧ ∀ i m ys H, W i m ys H → ys.length < sizeLine ∧
  ((J.stop i H ∧ ∀ l, H l = none → Q (.ref l) (upd H l (.lst ys))) ∨ (J.go i H ∧ ∃ M : List V → Hp → Prop, (∀ ys' H', M ys' H' → ∃ m', m' < m ∧ W (i + 1) m' ys' H') ∧
    ∀ x H', J.yld i H x H' → g x σc H' fun σ2 H2 => ti σ2 H2 fun b H3 => if b = true then te σ2 H3 fun y H4 => M (ys ++ [y]) H4 else M ys H3))
def tComp (fr : List (Option Nat)) (wi : TI) (g : TG) (ti : TT) (te : TE) : TE := fun σ H Q => wi σ H fun J H1 => CompI J g ti te (stC fr σ) H1 Q
structure Aside (X : Cx) (pins : List (Addr × Obj)) (H : Hp) (C : Addr) : Prop where
  fr : H C = none
  ne : C ≠ X.env.locals
  ab : X.s₀.heap.objs.size ≤ C
  cl : ∀ x c, X.env.cells.lookup x = some c → c ≠ C
  pn : ∀ p ∈ X.pn ++ pins, p.1 ≠ C
theorem Inv.aside {X : Cx} {pins : List (Addr × Obj)} {σ : St} {H H' : Hp} {s : Shared} {C : Addr} (I : Inv X pins σ H s) (hC : s.heap.objs.size ≤ C) (hn : H' C = none) : Aside X pins H' C := by
  obtain ⟨a, b, c, d, e, f⟩ := I.fpOk hC hn
  exact ⟨hn, b, Nat.le_trans I.sz hC, e, f⟩
def lob (us : List Value) (n : Nat) : Obj := { cls := .type "list", dict := none, data := .seq us.toArray n }
section
variable {X : Cx} {scope : Scope} {N : List Str} {fr : List (Option Nat)} {tg iter elt : Expr} {ifs : List Expr} {pos : Pos} {J : It} {g : TG} {ti : TT} {te : TE}
theorem comp_core {pins : List (Addr × Obj)} {σ : St} {H : Hp} {s₂ : Shared} {it : Addr} {fp : List Addr} {tn : Nat → Heap → Prop} {Q : VK} {E : Value → Shared → Prop} (c : CompOk X scope N fr) (hc : X.calm = true) (I : Inv X pins σ H s₂)
    (T : Turn X.prog X.w X.K tg J fp it tn) (st : tn 0 s₂.heap) (hfp : ∀ b ∈ fp, FpOk X pins H b)
    (hg : ∀ C, PG (cxC X scope C N s₂ H fp) tg g) (hi : ∀ C, PIfs (cxC X scope C N s₂ H fp) ifs ti) (he : ∀ C, PE (cxC X scope C N s₂ H fp) elt te) (gw : GW fr g) (hq : CompI J g ti te (stC fr σ) H Q)
    {RR : Value → Addr → Result → Shared → Prop}
    (hRR : ∀ D C H' ys s', Inv X pins σ (upd H' D (.lst ys)) s' → Aside X pins (upd H' D (.lst ys)) C → (∃ m, s'.heap.Ns C m) → Q (.ref D) (upd H' D (.lst ys)) → RR (.ref D) C (.ok .next) s') :
    wpAny (model X.prog X.w) X.A (newList []) (fun acc s₃ => wpAny (model X.prog X.w) X.A (newFunctionEnv scope X.env.globals (clOf X.env scope.names []) [] X.env.qual none .none (some X.env)) (fun cenv s₄ =>
      codeAny (model X.prog X.w) X.A (.compStart (.ListComp elt [⟨tg, iter, ifs, 0⟩] scope pos) 0 (.ref it) acc { cenv with scope := relabel scope X.env }) (RR acc cenv.locals) s₄) E s₃) E s₂ := by
  refine wpAny_newObj_type (wpAny_newFunctionEnv c.ncell (by intro y hy; simp at hy) (fun h₁ hns₁ hsb₁ => ?_) c.kind)
  dsimp only at hns₁ hsb₁ ⊢
  generalize hH2 : s₂.heap.push { cls := .type "list", dict := none, data := .seq ([] : List Value).toArray } = H2 at hns₁ hsb₁ ⊢
  have hC : H2.objs.size = s₂.heap.objs.size + 1 := by rw [← hH2, Heap.size_push]
  have hCle : s₂.heap.objs.size ≤ H2.objs.size := by rw [hC]; exact Nat.le_succ _
  have hDC : s₂.heap.objs.size ≠ H2.objs.size := by rw [hC]; exact Nat.ne_of_lt (Nat.lt_succ_self _)
  have old : ∀ b o, s₂.heap.get? b = some o → h₁.get? b = some o := fun b o e => hsb₁.extBut b o (by rw [hC]; exact Nat.ne_of_lt (Nat.lt_succ_of_lt (Heap.lt_size e))) (Heap.get?_push_of_some _ (hH2 ▸ Heap.get?_push_of_some _ e))
  have hacc : h₁.get? s₂.heap.objs.size = some (lob [] 0) := hsb₁.extBut _ _ hDC (Heap.get?_push_of_some _ (hH2 ▸ Heap.get?_push_size _ rfl))
  generalize hD : s₂.heap.objs.size = D at *
  generalize hCC : H2.objs.size = C at *
  have hfp2 : ∀ b ∈ fp, FpOk X pins H b ∧ b < s₂.heap.objs.size := fun b hb => ⟨hfp b hb, by obtain ⟨o, e, _⟩ := T.obj _ _ st b hb; exact Heap.lt_size e⟩
  have hns₂ : h₁.Ns C fun _ => none := hns₁
  have I0 : Inv (cxC X scope C N s₂ H fp) [] (stC fr σ) H { s₂ with heap := h₁, toks := s₂.toks + ([] : List (Str × Value)).length } := comp_inv c I (by rw [hD]; exact hCle) hfp2 old hns₂
  have st₁ : tn 0 h₁ := T.keep _ _ _ st fun b hb o e => old b o e
  have hDn : ∀ b ∈ fp, b ≠ D := fun b hb => by rw [← hD]; exact Nat.ne_of_lt (hfp2 b hb).2
  -- what is true of the list that grows
  have dAs : ∀ {H' : Hp}, H' D = none → (D ≠ (cxC X scope C N s₂ H fp).env.locals ∧ (cxC X scope C N s₂ H fp).s₀.heap.objs.size ≤ D ∧ ∀ x a, (cxC X scope C N s₂ H fp).env.cells.lookup x = some a → a ≠ D) := fun hn => ⟨hDC, Nat.le_of_eq hD, fun x a e z => by
    obtain ⟨v, o, ho, _⟩ := I.cell x a (c.get I.ok e)
    have := Heap.lt_size ho
    rw [z, ← hD] at this
    exact Nat.lt_irrefl _ this⟩
  obtain ⟨W, ⟨m0, w0⟩, turn⟩ := hq
  have loop : codeAny (model X.prog X.w) X.A (.compLoop (.ListComp elt [⟨tg, iter, ifs, 0⟩] scope pos) 0 (.ref it) (.ref D) (compEnvC scope (clOf X.env scope.names []) C X.env)) (RR (.ref D) C) { s₂ with heap := h₁, toks := s₂.toks + ([] : List (Str × Value)).length } := by
    refine compLoop_any (fun n s' => ∃ i ys us k H', Inv (cxC X scope C N s₂ H fp) [] (stC fr σ) H' s' ∧ tn i s'.heap ∧ (∀ b ∈ fp, H' b = none) ∧ s'.heap.get? D = some (lob us k) ∧ Vals ys us ∧ H' D = none ∧ W i n ys H') ?_ m0
      ⟨0, [], [], 0, H, I0, st₁, fun b hb => (hfp b hb).1, hacc, .nil, by rw [← hD]; exact I.hok.fresh (Nat.le_refl _), w0⟩
    rintro n s3 ⟨i, ys, us, k, H3, I3, st3, fr3, hD3, rv3, hDn3, w3⟩
    obtain ⟨hlen, alt⟩ := turn i n ys H3 w3
    obtain ⟨d1, d2, d3⟩ := dAs hDn3
    -- the list pinned
    have I3p : Inv (cxC X scope C N s₂ H fp) [(D, lob us k)] (stC fr σ) H3 s3 := I3.pins_of fun p hp => by
      have e : p = (D, lob us k) := by simpa using hp
      subst e
      refine ⟨hD3, hDn3, d1, fun z => ?_, fun v e => by cases (show Data.seq us.toArray k = Data.cell v from e)⟩
      have z' : D ∈ frs X.stack := z
      rcases List.mem_cons.mp (I.stkSub D z') with e | e
      · have := I.lt
        rw [← e, ← hD] at this
        exact Nat.lt_irrefl _ this
      · exact I.nofs (Nat.le_of_eq hD) e
    have stat : ∀ {H' : Hp}, (∀ b ∈ fp, H' b = none) → ∀ b ∈ fp, FpOk (cxC X scope C N s₂ H fp) [(D, lob us k)] H' b := fun hn b hb => by
      obtain ⟨q1, q2⟩ := hfp2 b hb
      refine ⟨hn b hb, Nat.ne_of_lt (Nat.lt_of_lt_of_le q2 (by rw [hD]; exact hCle)), fun z => ?_, .inl hb, fun x a e => q1.2.2.2.2.1 x a (c.get I.ok e), fun p hp => ?_⟩
      · exact (comp_ok c I (by rw [hD]; exact hCle) hfp2).exfs b hb z
      · have e : p = (D, lob us k) := by simpa [cxC] using hp
        subst e
        exact (hDn b hb).symm
    rcases alt with ⟨stop, qn⟩ | ⟨go, M, hM, step⟩
    · refine thn (T.done (cxC X scope C N s₂ H fp) rfl rfl rfl hc i _ s3 _ H3 _ I3p (stat fr3) st3 stop) fun r s4 ⟨hr, I4⟩ => ?_
      subst hr
      have pD := (I4.pin (D, lob us k) (by simp)).1
      have I4' : Inv (cxC X scope C N s₂ H fp) [] (stC fr σ) H3 s4 := I4.pins_of fun p hp => absurd hp (by simp)
      have IX : Inv X pins σ H3 s4 := I.call' I4'.os I4'.base I4'.hok I4'.bare fun b hb => by
        obtain ⟨q1, q2, q3, q4, q5, q6⟩ := hfp b hb
        exact ⟨q4, q2, q5, q6⟩
      have aD : Aside X pins H3 D := I.aside (Nat.le_of_eq hD) hDn3
      have IT : Inv X pins σ (upd H3 D (.lst ys)) s4 := IX.track hDn3 aD.ne aD.ab aD.cl aD.pn ⟨Nat.le_of_lt hlen, us, k, rv3, pD⟩
      refine hRR D C H3 ys s4 IT ?_ ?_ (qn D hDn3)
      · refine I.aside (by rw [hD]; exact hCle) ?_
        rw [upd_ne (Ne.symm hDC)]
        exact I4'.free
      · obtain ⟨m, hm, _⟩ := I4'.loc
        exact ⟨m, hm⟩
    · refine thn (T.item (cxC X scope C N s₂ H fp) rfl rfl rfl hc i _ s3 _ H3 _ I3p (stat fr3) st3 go) fun r s4 ⟨u, hr, h4⟩ => ?_
      subst hr
      refine thn h4 fun _ s5 ⟨x, H5, I5, r5, y5, st5, fr5⟩ => ?_
      have I5' := I5.pinned (stat fr5) (T.obj _ _ st5)
      refine thn (hg C _ s5 _ H5 x u _ I5' r5 (gw x _ H5 _ _ (fun σ2 H2 wk q => And.intro wk q) (step x H5 y5))) fun _ s6 ⟨σ6, H6, I6, wk6, q6⟩ => ?_
      refine thn (hi C _ s6 σ6 H6 _ I6 q6) fun ok s7 ⟨H7, I7, q7⟩ => ?_
      have back : ∀ {σ8 : St} {H8 : Hp} {s8 : Shared}, σ8 = σ6 → Inv (cxC X scope C N s₂ H fp) ([(D, lob us k)] ++ pinsAt fp s5.heap) σ8 H8 s8 → Inv (cxC X scope C N s₂ H fp) [] (stC fr σ) H8 s8 ∧ tn (i + 1) s8.heap ∧ (∀ b ∈ fp, H8 b = none) ∧ s8.heap.get? D = some (lob us k) ∧ H8 D = none := fun {σ8 H8 s8} e8 I8 => by
        subst e8
        have pf : ∀ b o, b ∈ fp → s5.heap.get? b = some o → s8.heap.get? b = some o ∧ H8 b = none := fun b o hb e => by
          have := I8.pin (b, o) (List.mem_append_right _ (List.mem_append_right _ (mem_pinsAt hb e)))
          exact ⟨this.1, this.2.1⟩
        refine ⟨(I8.pins_of (pins' := []) fun p hp => absurd hp (by simp)).weak wk6.1.symm fun a v e => ?_, T.keep _ _ _ st5 fun b hb o e => (pf b o hb e).1, fun b hb => ?_, (I8.pin (D, lob us k) (by simp)).1, (I8.pin (D, lob us k) (by simp)).2.1⟩
        · obtain ⟨j, f1, _⟩ := stC_get e
          rw [wk6.2 a j f1]
          exact e
        · obtain ⟨o, e, _⟩ := T.obj _ _ st5 b hb
          exact (pf b o hb e).2
      cases ok with
      | false =>
        obtain ⟨m', hm, w7⟩ := hM _ _ (by simpa using q7)
        obtain ⟨a1, a2, a3, a4, a5⟩ := back rfl I7
        exact ⟨m', hm, i + 1, ys, us, k, H7, a1, a2, a3, a4, rv3, a5, w7⟩
      | true =>
        have q7' : te σ6 H7 fun y H4 => M (ys ++ [y]) H4 := by simpa using q7
        refine thn (he C _ s7 σ6 H7 _ I7 q7') fun v s8 ⟨y, H8, I8, ry, q8⟩ => ?_
        obtain ⟨m', hm, w8⟩ := hM _ _ q8
        obtain ⟨a1, a2, a3, a4, a5⟩ := back rfl I8
        have hus : us.toArray.size ≤ sizeLine := by
          rw [List.size_toArray, ← rv3.length]
          exact Nat.le_of_lt hlen
        refine wpAny_list_append_plain (hsz := hus) (l := D) (items := us.toArray) ⟨_, a4⟩ fun h₅ hl₅ hs₅ => ?_
        obtain ⟨k', hl₅'⟩ := hl₅
        obtain ⟨e1, e2, e3⟩ := dAs a5
        refine ⟨m', hm, i + 1, ys ++ [y], us ++ [v], k', H8, a1.turned (t' := s8.toks) (fun b o hb e => (hs₅.2 b hb).trans e) a5 e1 (.inr e2) e3 (fun p hp => absurd (show p ∈ ([] : List (Addr × Obj)) from hp) (by simp)), T.keep _ _ _ a2 fun b hb o e => (hs₅.2 b (hDn b hb)).trans e, a3, ?_, rv3.append (.cons ry .nil), a5, w8⟩
        show h₅.get? D = _
        rw [hl₅']
        simp [lob]
  exact codeAny_compStart_list loop (T.self _ _ _ _ _ st₁ loop)

theorem pe_comp {wi : TI} (c : CompOk X scope N fr) (hc : X.calm = true) (hi : PI X tg iter wi) (hg : ∀ C s₂ H fp, PG (cxC X scope C N s₂ H fp) tg g) (hf : ∀ C s₂ H fp, PIfs (cxC X scope C N s₂ H fp) ifs ti) (he : ∀ C s₂ H fp, PE (cxC X scope C N s₂ H fp) elt te) (gw : GW fr g)
    (hs : ∀ x, foldedSetIterable iter X.env x = pure x := by intro _; rfl) : PE X (.ListComp elt [⟨tg, iter, ifs, 0⟩] scope pos) (tComp fr wi g ti te) := by
  intro pins s σ H Q I h
  rw [eval_ListComp]
  refine wpAny_comprehension_free (use := none) rfl hs (closure_eq (c.cells I.ok)) c.kind c.names (thn (hi pins s σ H _ I h) fun v s1 h1 => thn h1 fun itv s2 h2 => ?_)
  obtain ⟨it, fp, tn, J, H2, e, I2, T, st2, f2, q⟩ := h2
  subst e
  refine comp_core (RR := fun acc C => compPost (model X.prog X.w) X.A X.xe none (EP X pins σ Q) acc C) c hc I2 T st2 f2 (fun C => hg C _ _ _) (fun C => hf C _ _ _) (fun C => he C _ _ _) gw q ?_
  intro D C H' ys s' IT as hm q
  obtain ⟨m, hm⟩ := hm
  exact ⟨m, hm, fun h' sb => ⟨.ref D, _, IT.turned (t' := s'.toks) (fun b o hb e => (sb.2 b hb).trans e) as.fr as.ne (.inr as.ab) as.cl as.pn, rfl, q⟩⟩
end
end L2

set_option Elab.async false
set_option linter.all false
set_option maxRecDepth 100000
namespace L2
open PySem PySem.Spec PyProof.Rows

/-- several untracked records of ours have turned -/
theorem Inv.turnedL {X : Cx} {pins : List (Addr × Obj)} {σ : St} {H : Hp} {s : Shared} {h' : Heap} {t' : Nat} {fp : List Addr} (I : Inv X pins σ H s) (hf : ∀ b ∈ fp, FpOk X pins H b) (k : ∀ b o, b ∉ fp → s.heap.get? b = some o → h'.get? b = some o) :
    Inv X pins σ H { s with heap := h', toks := t' } := by
  have nit : ∀ b u, H b = some u → b ∉ fp := fun b u e z => by rw [(hf b z).1] at e; cases e
  refine I.step (g' := s.gens) (d' := s.drawn) (ch := fp) (fun b hb => ?_) (fun b o _ _ hc e _ => k b o hc e) (fun b o _ _ hc e _ => ⟨o.slots, k b o hc e⟩) (fun _ _ _ _ n => n)
    (fun b o hc e => ⟨o, k b o hc e⟩) (fun _ _ e => e) (fun _ _ _ e => e) (fun b ps e => ⟨#[], by rw [e]; simp⟩) (fun m hm => ?_) (fun b u e => ?_) I.bare
  · obtain ⟨q1, q2, q3, q4, q5, q6⟩ := hf b hb
    exact ⟨q4, q2, q5, q6⟩
  · obtain ⟨o, es, ep, ho, r⟩ := hm
    exact ⟨o, es, ep, k _ o (fun z => (hf _ z).2.1 rfl) ho, r⟩
  · refine (I.hok b u e).stay (fun c v hc q => k c v ?_ q) (fun _ q => q) fun _ _ q => q
    rcases hc with z | z
    · rw [z]; exact nit b u e
    · exact nit c _ z
/-- .. and a tuple is new -/
theorem Inv.turnT {X : Cx} {pins : List (Addr × Obj)} {σ : St} {H : Hp} {s : Shared} {h' : Heap} {t' : Nat} {fp : List Addr} {T : Addr} {xs : List V} {its : List Value} (I : Inv X pins σ H s) (hf : ∀ b ∈ fp, FpOk X pins H b) (k : ∀ b o, b ∉ fp → s.heap.get? b = some o → h'.get? b = some o)
    (hT : s.heap.objs.size ≤ T) (hz : xs.length ≤ sizeLine) (r : Vals xs its) (it : IsTup h' T its.toArray) : Inv X pins σ (upd H T (.tup xs)) { s with heap := h', toks := t' } := by
  have hn : H T = none := I.hok.fresh hT
  have a := I.aside hT hn
  exact (I.turnedL (t' := t') hf k).track hn a.ne a.ab a.cl a.pn ⟨hz, its, r, it⟩

/-! ### zip of two lists -/
def Itz (K : PySem.W.Frag) (a b : Addr) : It :=
  ⟨fun i H => ∃ xs ys x y, SqL K H a xs ∧ SqL K H b ys ∧ xs[i]? = some x ∧ ys[i]? = some y,
   fun i H v H' => ∃ T x y, v = .ref T ∧ H T = none ∧ H' = upd H T (.tup [x, y]) ∧ (∀ xs, SqL K H a xs → xs[i]? = some x) ∧ ∀ ys, SqL K H b ys → ys[i]? = some y,
   fun i H => ∃ xs ys, SqL K H a xs ∧ SqL K H b ys ∧ (xs.length ≤ i ∨ ys.length ≤ i)⟩
def ZipSt (z TI TO i1 i2 a b : Addr) (i : Nat) (h : Heap) : Prop := IsZip h z TI TO .none ∧ IsPair h TI (.ref i1) (.ref i2) ∧ (∃ u v, IsPair h TO u v) ∧ h.IsListIter i1 a i ∧ h.IsListIter i2 b i
theorem turn_zip {P : Program} {w : World} {K : PySem.W.Frag} {elts : List Expr} {kk : Nat} {tp : Pos} {z TI TO i1 i2 a b : Addr} (D : ZipApart z TI TO i1 i2 a b) :
    Turn P w K (.Tuple elts kk tp) (Itz K a b) [z, TI, TO, i1, i2] z (ZipSt z TI TO i1 i2 a b) where
  mem := by simp
  obj := fun i h st c hc => by
    obtain ⟨h1, h2, ⟨u, v, h3⟩, ⟨o1, e1, _, d1⟩, ⟨o2, e2, _, d2⟩⟩ := st
    simp only [List.mem_cons, List.not_mem_nil, or_false] at hc
    rcases hc with rfl | rfl | rfl | rfl | rfl
    · exact ⟨_, h1, fun v z => by cases (show Data.fields _ = Data.cell v from z)⟩
    · exact ⟨_, h2, fun v z => by cases (show Data.seq _ _ = Data.cell v from z)⟩
    · exact ⟨_, h3, fun v z => by cases (show Data.seq _ _ = Data.cell v from z)⟩
    · exact ⟨_, e1, fun v z => by rw [d1] at z; cases z⟩
    · exact ⟨_, e2, fun v z => by rw [d2] at z; cases z⟩
  keep := fun i h h' st k => by
    obtain ⟨h1, h2, ⟨u, v, h3⟩, h4, h5⟩ := st
    exact ⟨k _ (by simp) _ h1, k _ (by simp) _ h2, ⟨u, v, k _ (by simp) _ h3⟩, h4.at fun o e => k _ (by simp) o e, h5.at fun o e => k _ (by simp) o e⟩
  item := by
    intro X hP hw hK hc i pins s σ H E I hf st hg
    subst hP hw hK
    obtain ⟨xs, ys, x, y, hx, hy, ex, ey⟩ := hg
    obtain ⟨h1, h2, ⟨u, v, h3⟩, h4, h5⟩ := st
    obtain ⟨its, rv, p, hz⟩ := I.list hx
    obtain ⟨jts, rw', q, hz'⟩ := I.list hy
    obtain ⟨ux, hux, rux⟩ := rv.get ex
    obtain ⟨uy, huy, ruy⟩ := rw'.get ey
    refine wpAny_pyNext_zip_item D h1 h2 h3 h4 h5 p.isList q.isList (x := ux) (y := uy) (by simpa using hux) (by simpa using huy) fun h' a1 a2 a3 a4 a5 a6 a7 => ?_
    have lt : ∀ c ∈ [z, TI, TO, i1, i2], c < s.heap.objs.size := fun c hc => by
      obtain ⟨o1, e1, _⟩ := h4
      obtain ⟨o2, e2, _⟩ := h5
      simp only [List.mem_cons, List.not_mem_nil, or_false] at hc
      rcases hc with rfl | rfl | rfl | rfl | rfl
      · exact Heap.lt_size h1
      · exact Heap.lt_size h2
      · exact Heap.lt_size h3
      · exact Heap.lt_size e1
      · exact Heap.lt_size e2
    have zT : z ≠ s.heap.objs.size := Nat.ne_of_lt (lt z (by simp))
    refine ⟨_, rfl, wpAny_letOwnedTupleGo_zip a1 fun h2' b1 b2 => ?_⟩
    have hk : ∀ c o, c ∉ [z, TI, TO, i1, i2] → s.heap.get? c = some o → h2'.get? c = some o := fun c o hc e => by
      simp only [List.mem_cons, List.not_mem_nil, or_false, not_or] at hc
      exact (b2.2 c hc.1).trans (a7 c o hc.1 hc.2.2.1 hc.2.2.2.1 hc.2.2.2.2 e)
    have I1 := I.turnT (h' := h2') (t' := s.toks) (T := s.heap.objs.size) (xs := [x, y]) (its := [ux, uy]) hf hk (Nat.le_refl _) (szl (Nat.le_of_ble_eq_true rfl)) (.cons rux (.cons ruy .nil)) ⟨_, (b2.2 _ zT.symm).trans a5, rfl, _, rfl⟩
    refine ⟨.ref s.heap.objs.size, _, I1, rfl, ⟨_, x, y, rfl, I.hok.fresh (Nat.le_refl _), rfl, fun xs' h => by rw [I.list_inj h hx]; exact ex, fun ys' h => by rw [I.list_inj h hy]; exact ey⟩, ?_, fun c hc => ?_⟩
    · exact ⟨b1, (b2.2 _ D.TIz).trans (a7 _ _ D.TIz D.TITO D.TIi1 D.TIi2 h2), ⟨_, _, (b2.2 _ D.TOz).trans a2⟩, a3.at fun o e => (b2.2 _ D.i1z).trans e, a4.at fun o e => (b2.2 _ D.i2z).trans e⟩
    · rw [upd_ne (Nat.ne_of_lt (lt c hc))]
      exact (hf c hc).1
  done := by
    intro X hP hw hK hc i pins s σ H E I hf st hg
    subst hP hw hK
    obtain ⟨xs, ys, hx, hy, hl⟩ := hg
    obtain ⟨h1, h2, ⟨u, v, h3⟩, h4, h5⟩ := st
    obtain ⟨its, rv, p, hz⟩ := I.list hx
    obtain ⟨jts, rw', q, hz'⟩ := I.list hy
    have l1 := rv.length
    have l2 := rw'.length
    refine wpAny_pyNext_zip_end (I.ok.hd hc) D h1 h2 h3 h4 h5 p.isList q.isList ?_ fun h' hk => ⟨rfl, ?_⟩
    · rcases hl with hl | hl
      · left; simp; omega
      · right; simp; omega
    · exact I.turnedL (t' := s.toks) hf fun c o hc e => by
        simp only [List.mem_cons, List.not_mem_nil, or_false, not_or] at hc
        exact hk c o hc.1 hc.2.2.1 hc.2.2.2.1 hc.2.2.2.2 e
  self := fun A i s Q E st h => wpAny_pyIter_zip st.1 h
def iZip2 (K : PySem.W.Frag) (ta : TA) : TI := fun σ H R => ta σ H fun vs H1 => ∃ a b, vs = [.ref a, .ref b] ∧ (∃ xs, SqL K H1 a xs) ∧ (∃ ys, SqL K H1 b ys) ∧ R (Itz K a b) H1
theorem bt_zip : bootBuiltins "zip" = some (.type "zip") := by first | exact PySem.boot_zip | exact PyProof.Rows.boot_zip
section
variable {X : Cx} {elts : List Expr} {kk : Nat} {tp : Pos}
theorem pi_zip2 {a b : Expr} {ta : TA} {p pos : Pos} (hg : Gl X "zip") (hm : X.mg "zip" = none) (ha : PA X [a, b] ta) (hs : starEach [a, b] X.env = [(false, eval a X.env), (false, eval b X.env)] := by rfl) (hs2 : starEach [b] X.env = [(false, eval b X.env)] := by rfl) :
    PI X (.Tuple elts kk tp) (.Call (.Name "zip" p) [a, b] [] pos) (iZip2 X.K ta) := by
  intro pins s σ H R I h
  refine Call_ (ld_blt I hg hm bt_zip (PyProof.Rows.callWith_type1 (thn (ha pos pins s σ H _ I h) fun us s1 ⟨vs, H1, I1, r1, q1⟩ => ?_) (by rw [hs, hs2]) (by rw [hs2]; rfl)))
  obtain ⟨x, y, e, ⟨xs, hx⟩, ⟨ys, hy⟩, q⟩ := q1
  subst e
  cases r1 with
  | cons r rr =>
    cases rr with
    | cons r' rr =>
      cases rr
      obtain ⟨its, rv, pl, hz⟩ := I1.list hx
      obtain ⟨jts, rw', ql, hz'⟩ := I1.list hy
      cases r
      cases r'
      have a1 : x < s1.heap.objs.size := by obtain ⟨_, e, _⟩ := pl.isList; exact Heap.lt_size e
      have a2 : y < s1.heap.objs.size := by obtain ⟨_, e, _⟩ := ql.isList; exact Heap.lt_size e
      refine call_zip_2 pl.isList ql.isList fun h' b1 b2 b3 b4 b5 b6 b7 => ?_
      have I2 : Inv X pins σ H1 { s1 with heap := h' } := I1.kept (t' := s1.toks) b7
      refine wpAny_pyIter_zip (s := { s1 with heap := h' }) b1 ⟨_, _, _, _, H1, rfl, I2, turn_zip (zipApart_new a1 a2), ⟨b1, b2, ⟨_, _, b3⟩, b4, b5⟩, fun c hc => ?_, q⟩
      have hc' : s1.heap.objs.size ≤ c := by
        simp only [List.mem_cons, List.not_mem_nil, or_false] at hc
        rcases hc with rfl | rfl | rfl | rfl | rfl
        · exact Nat.le_add_right _ _
        · exact Nat.le_add_right _ _
        · exact Nat.le_add_right _ _
        · exact Nat.le_refl _
        · exact Nat.le_add_right _ _
      exact I1.fpOk hc' (I1.hok.fresh hc')
end

/-! ### enumerate of a list -/
def Ite (K : PySem.W.Frag) (a : Addr) : It :=
  ⟨fun i H => ∃ xs x, SqL K H a xs ∧ xs[i]? = some x,
   fun i H v H' => ∃ T x, v = .ref T ∧ H T = none ∧ H' = upd H T (.tup [.int i, x]) ∧ (∀ xs, SqL K H a xs → xs[i]? = some x),
   fun i H => ∃ xs, SqL K H a xs ∧ xs.length ≤ i⟩
def iEnum (K : PySem.W.Frag) (ta : TA) : TI := fun σ H R => ta σ H fun vs H1 => ∃ a, vs = [.ref a] ∧ (∃ xs, H1 a = some (.lst xs)) ∧ R (Ite K a) H1
section
variable {X : Cx} {elts : List Expr} {kk : Nat} {tp : Pos}
end
end L2

set_option Elab.async false
set_option linter.all false
set_option maxRecDepth 100000
namespace L2
open PySem PySem.Spec PyProof.Rows
section
variable {prog : Program} {w : World} {A : Around} {E : Value → Shared → Prop} {s : Shared}
theorem min_raw {l : Addr} {vs : List Value} {ns : List Int} {Q : Value → Shared → Prop} (hh : A.handled = none) (hl : s.heap.IsList l vs.toArray) (hi : IntsAre vs ns) (hne : 0 < ns.length)
    (h : ∀ h' M (t : Tok) tk, (∀ b o, s.heap.get? b = some o → h'.get? b = some o) → M ∈ ns → (∀ a, a ∈ ns → M ≤ a) → Q (.int M t) { s with heap := h', toks := tk }) : wpAny (model prog w) A (call (.builtin "min") [.ref l]) Q E s := by
  obtain ⟨xs, e⟩ := hi.allInts.items
  have hns : ns = xs.toList.map (·.1) := by
    rw [← hi.numsOf, ← nums_intItems, ← e]
  have hsz : 0 < xs.size := by
    have h3 := hne; rw [hns, List.length_map, Array.length_toList] at h3; exact h3
  rw [e] at hl
  refine min_intList hh hl hsz fun v h' tk hv hk => ?_
  obtain ⟨t, rfl⟩ := intItems_at hv
  obtain ⟨h1, h2⟩ := argBest_lt (numAt xs) (xs.size - 1)
  refine h _ _ t tk hk ?_ fun a ha => ?_
  · rw [hns, numAt_eq]; exact PySem.getD_mem (by rw [List.length_map, Array.length_toList]; omega)
  · rw [hns] at ha
    obtain ⟨j, hj, rfl⟩ := mem_getD ha
    rw [List.length_map, Array.length_toList] at hj
    rw [← numAt_eq]; exact h2 j (by omega)
theorem max_raw {l : Addr} {vs : List Value} {ns : List Int} {Q : Value → Shared → Prop} (hh : A.handled = none) (hl : s.heap.IsList l vs.toArray) (hi : IntsAre vs ns) (hne : 0 < ns.length)
    (h : ∀ h' M (t : Tok) tk, (∀ b o, s.heap.get? b = some o → h'.get? b = some o) → M ∈ ns → (∀ a, a ∈ ns → a ≤ M) → Q (.int M t) { s with heap := h', toks := tk }) : wpAny (model prog w) A (call (.builtin "max") [.ref l]) Q E s := by
  obtain ⟨xs, e⟩ := hi.allInts.items
  have hns : ns = xs.toList.map (·.1) := by
    rw [← hi.numsOf, ← nums_intItems, ← e]
  have hsz : 0 < xs.size := by
    have h3 := hne; rw [hns, List.length_map, Array.length_toList] at h3; exact h3
  rw [e] at hl
  refine max_intList hh hl hsz fun v h' tk hv hk => ?_
  obtain ⟨t, rfl⟩ := intItems_at hv
  obtain ⟨h1, h2⟩ := argBest_gt (numAt xs) (xs.size - 1)
  refine h _ _ t tk hk ?_ fun a ha => ?_
  · rw [hns, numAt_eq]; exact PySem.getD_mem (by rw [List.length_map, Array.length_toList]; omega)
  · rw [hns] at ha
    obtain ⟨j, hj, rfl⟩ := mem_getD ha
    rw [List.length_map, Array.length_toList] at hj
    rw [← numAt_eq]; exact h2 j (by omega)
theorem sum_raw {l : Addr} {vs : List Value} {ns : List Int} {Q : Value → Shared → Prop} (hh : A.handled = none) (hl : s.heap.IsList l vs.toArray) (hi : IntsAre vs ns)
    (h : ∀ h' tk t', (∀ b o, s.heap.get? b = some o → h'.get? b = some o) → Q (.int ns.sum t') { s with heap := h', toks := tk }) : wpAny (model prog w) A (call (.builtin "sum") [.ref l]) Q E s := by
  obtain ⟨xs, hx⟩ := hi.allInts.items
  have hl' : s.heap.IsList l (intItems xs) := hx ▸ hl
  refine sum_intListG hh hl' fun h' tk t' hk => ?_
  have e1 : ns = xs.toList.map (·.1) := by
    rw [← nums_intItems, ← hx]
    exact (show numsOf vs.toArray.toList = ns from hi.numsOf).symm
  have e2 : preSum (numAt xs) xs.size = ns.sum := by
    rw [preSum_eq, List.take_of_length_le (by simp), e1]
  rw [e2]
  exact h h' tk t' hk
end
def rSum (K : PySem.W.Frag) : List V → Hp → VK → Prop := fun xs H Q => ∃ p ns, xs = [.ref p] ∧ SqL K H p (iL ns) ∧ Q (.int ns.sum) H
def rMin (K : PySem.W.Frag) : List V → Hp → VK → Prop := fun xs H Q => (∃ i j, xs = [.int i, .int j] ∧ Q (.int (if j < i then j else i)) H) ∨ ∃ p ns, xs = [.ref p] ∧ SqL K H p (iL ns) ∧ 0 < ns.length ∧ ∀ m, m ∈ ns → (∀ a ∈ ns, m ≤ a) → Q (.int m) H
def rMax (K : PySem.W.Frag) : List V → Hp → VK → Prop := fun xs H Q => (∃ i j, xs = [.int i, .int j] ∧ Q (.int (if j > i then j else i)) H) ∨ ∃ p ns, xs = [.ref p] ∧ SqL K H p (iL ns) ∧ 0 < ns.length ∧ ∀ m, m ∈ ns → (∀ a ∈ ns, a ≤ m) → Q (.int m) H
def rSorted (K : PySem.W.Frag) : List V → Hp → VK → Prop := fun xs H Q => ∃ p ns, xs = [.ref p] ∧ SqL K H p (iL ns) ∧ ns.length < 64 ∧ ∀ l ms, H l = none → ms.Perm ns → ms.Pairwise (· ≤ ·) → Q (.ref l) (upd H l (.lst (iL ms)))
section
variable {X : Cx}
theorem call_sumN (hc : X.calm = true) : CallR X (.builtin "sum") (rSum X.K) := by
  intro pins s σ H xs us Q I r h
  obtain ⟨p, ns, rfl, hq, q⟩ := h
  obtain ⟨u, rfl, ru⟩ := vals1 r
  cases ru
  obtain ⟨its, rv, pl, hz⟩ := I.list hq
  exact sum_raw (I.ok.hd hc) pl.isList (intsAre_of rv) fun h' tk t' hk => ⟨.int _, H, I.kept (t' := tk) hk, ⟨_, rfl⟩, q⟩
theorem call_minN (hc : X.calm = true) : CallR X (.builtin "min") (rMin X.K) := by
  intro pins s σ H xs us Q I r h
  rcases h with h | ⟨p, ns, rfl, hq, hne, q⟩
  · exact call_min2 hc pins s σ H xs us Q I r h
  · obtain ⟨u, rfl, ru⟩ := vals1 r
    cases ru
    obtain ⟨its, rv, pl, hz⟩ := I.list hq
    exact min_raw (I.ok.hd hc) pl.isList (intsAre_of rv) hne fun h' M t tk hk h1 h2 => ⟨.int M, H, I.kept (t' := tk) hk, ⟨_, rfl⟩, q M h1 h2⟩
theorem call_maxN (hc : X.calm = true) : CallR X (.builtin "max") (rMax X.K) := by
  intro pins s σ H xs us Q I r h
  rcases h with h | ⟨p, ns, rfl, hq, hne, q⟩
  · exact call_max2 hc pins s σ H xs us Q I r h
  · obtain ⟨u, rfl, ru⟩ := vals1 r
    cases ru
    obtain ⟨its, rv, pl, hz⟩ := I.list hq
    exact max_raw (I.ok.hd hc) pl.isList (intsAre_of rv) hne fun h' M t tk hk h1 h2 => ⟨.int M, H, I.kept (t' := tk) hk, ⟨_, rfl⟩, q M h1 h2⟩
end
section
variable {K : PySem.W.Frag} {H : Hp} {Q : VK} {p : Addr} {ns : List Int} {i j : Int}
theorem i_sum (h : SqL K H p (iL ns)) (q : Q (.int ns.sum) H) : rSum K [.ref p] H Q := ⟨p, ns, rfl, h, q⟩
theorem i_min2 (q : ∀ m, m = min i j → Q (.int m) H) : rMin K [.int i, .int j] H Q := .inl ⟨i, j, rfl, q _ (by split <;> omega)⟩
theorem i_max2 (q : ∀ m, m = max i j → Q (.int m) H) : rMax K [.int i, .int j] H Q := .inl ⟨i, j, rfl, q _ (by split <;> omega)⟩
theorem i_minL (h : SqL K H p (iL ns)) (hn : 0 < ns.length) (q : ∀ m, m ∈ ns → (∀ a ∈ ns, m ≤ a) → Q (.int m) H) : rMin K [.ref p] H Q := .inr ⟨p, ns, rfl, h, hn, q⟩
end

/-! ### loops over zip, enumerate; comprehensions by an invariant -/
section
variable {K : PySem.W.Frag} {g : TG} {tb : TS} {D : Ends} {σ : St} {H : Hp}
/-- both lists of ints, as long as the shorter one -/
theorem lp_zip {a b : Addr} {xs ys : List V} (Pv : Nat → St → Hp → Prop) (h0 : Pv 0 σ H) (hl : ∀ i σ H, Pv i σ H → SqL K H a xs ∧ SqL K H b ys)
    (hs : ∀ i x y T σ H, xs[i]? = some x → ys[i]? = some y → Pv i σ H → H T = none → g (.ref T) σ (upd H T (.tup [x, y])) fun σ2 H2 => tb { D with nx := Pv (i + 1), ct := Pv (i + 1), bk := D.nx } σ2 H2)
    (hd : ∀ σ H, Pv (min xs.length ys.length) σ H → D.nx σ H) : LoopI (Itz K a b) g tb D σ H := by
  refine ⟨fun i m σ H => m = min xs.length ys.length - i ∧ i ≤ min xs.length ys.length ∧ Pv i σ H, ⟨_, rfl, Nat.zero_le _, h0⟩, ?_⟩
  rintro i m σ H ⟨rfl, hi, p⟩
  obtain ⟨q1, q2⟩ := hl i σ H p
  by_cases hlt : i < min xs.length ys.length
  · have l1 : i < xs.length := by omega
    have l2 : i < ys.length := by omega
    refine .inr ⟨⟨xs, ys, xs[i], ys[i], q1, q2, by simp [l1], by simp [l2]⟩, Pv (i + 1), fun σ' H' p' => ⟨_, by omega, rfl, hlt, p'⟩, fun x H' y => ?_⟩
    obtain ⟨T, x1, y1, rfl, hT, rfl, ex, ey⟩ := y
    exact hs i x1 y1 T σ H (ex xs q1) (ey ys q2) p hT
  · have e : i = min xs.length ys.length := by omega
    refine .inl ⟨⟨xs, ys, q1, q2, by omega⟩, hd σ H (by rw [← e]; exact p)⟩
end
section
variable {K : PySem.W.Frag} {g : TG} {ti : TT} {te : TE} {σc : St} {H : Hp} {Q : VK}
theorem cp_list {a : Addr} {xs : List V} (Pv : Nat → List V → Hp → Prop) (h0 : Pv 0 [] H) (hl : ∀ i ys H, Pv i ys H → SqL K H a xs ∧ ys.length ≤ i) (hx : xs.length < sizeLine)
    (hs : ∀ i x ys H, xs[i]? = some x → Pv i ys H → g x σc H fun σ2 H2 => ti σ2 H2 fun b H3 => if b = true then te σ2 H3 fun y H4 => Pv (i + 1) (ys ++ [y]) H4 else Pv (i + 1) ys H3)
    (hd : ∀ l ys H, Pv xs.length ys H → H l = none → Q (.ref l) (upd H l (.lst ys))) : CompI (Itl K a) g ti te σc H Q := by
  refine ⟨fun i m ys H => m = xs.length - i ∧ i ≤ xs.length ∧ Pv i ys H, ⟨_, rfl, Nat.zero_le _, h0⟩, ?_⟩
  rintro i m ys H ⟨rfl, hi, p⟩
  obtain ⟨q, hy⟩ := hl i ys H p
  refine ⟨by omega, ?_⟩
  by_cases hlt : i < xs.length
  · refine .inr ⟨⟨xs, xs[i], q, by simp [hlt]⟩, Pv (i + 1), fun σ' H' p' => ⟨_, by omega, rfl, hlt, p'⟩, fun x H' y => ?_⟩
    obtain ⟨e, y⟩ := y
    subst e
    exact hs i x ys _ (y xs q) p
  · have e : i = xs.length := by omega
    subst e
    exact .inl ⟨⟨xs, q, Nat.le_refl _⟩, fun l hl => hd l ys H p hl⟩
end
end L2
namespace L2
open PySem PySem.Spec PyProof.Rows
theorem fr_nil {X : Cx} {sc : Scope} : FrOk X sc [] [] := trivial
theorem fr_none {X : Cx} {sc : Scope} {x : Str} {N : List Str} {fr : List (Option Nat)} (h : FrOk X sc N fr) : FrOk X sc (x :: N) (none :: fr) := h
theorem fr_some {X : Cx} {sc : Scope} {x : Str} {N : List Str} {fr : List (Option Nat)} {j : Nat} (h1 : X.N[j]? = some x) (h2 : X.env.kindOf x = some .cell ∨ X.env.kindOf x = some .free) (h3 : sc.names.lookup x = some .free) (h : FrOk X sc N fr) : FrOk X sc (x :: N) (some j :: fr) := ⟨⟨h1, h2, h3⟩, h⟩
theorem pe_globI {X : Cx} {x : Str} {n : Int} {pos : Pos} (h : ∃ t, X.mg x = some (.int n t)) (hg : Gl X x) (hd : (x == ("__debug__" : Str)) = false := by decide) : PE X (.Name x pos) (tC (.int n)) := by
  obtain ⟨t, h⟩ := h
  exact pe_glob hg h ⟨t, rfl⟩ hd
end L2
namespace L2
open PySem PySem.Spec PyProof.Rows
/-! ### the same rules with K said apart (a block's context hides it) -/
section
variable {X : Cx} (K : PySem.W.Frag) {tg l : Expr} {tl : TE} {pos p : Pos}
theorem op_eqK (hu : X.A.units + 64 < cLine) (hK : X.K = K := by rfl) : OpR X (compareOp .Eq) (rEqP K) := by subst hK; exact op_eqP hu
theorem op_neK (hu : X.A.units + 64 < cLine) (hK : X.K = K := by rfl) : OpR X (compareOp .NotEq) (rNeP K) := by subst hK; exact op_neP hu
theorem ix_K (hK : X.K = K := by rfl) : IxR X (rIxP K) := by subst hK; exact ix_P
theorem sl_listK (hK : X.K = K := by rfl) : SlR X (rSlL K) := by subst hK; exact sl_list
theorem call_lenK (hK : X.K = K := by rfl) : CallR X (.builtin "len") (rLen K) := by subst hK; exact call_lenN
theorem call_isinstanceK (hK : X.K = K := by rfl) : CallR X (.builtin "isinstance") (rIsi K) := by subst hK; exact call_isinstanceN
theorem call_listK (hK : X.K = K := by rfl) : CallR X (.type "list") (rListOf K) := by subst hK; exact call_listN
theorem call_sumK (hc : X.calm = true := by rfl) (hK : X.K = K := by rfl) : CallR X (.builtin "sum") (rSum K) := by subst hK; exact call_sumN hc
theorem call_minK (hc : X.calm = true := by rfl) (hK : X.K = K := by rfl) : CallR X (.builtin "min") (rMin K) := by subst hK; exact call_minN hc
theorem call_maxK (hc : X.calm = true := by rfl) (hK : X.K = K := by rfl) : CallR X (.builtin "max") (rMax K) := by subst hK; exact call_maxN hc
theorem call_intK : CallR X (.type "int") rIntOf := call_intN
theorem call_absK : CallR X (.builtin "abs") rAbs := call_absN
theorem pi_listK (hl : PE X l tl) (hK : X.K = K := by rfl) : PI X tg l (iList K tl) := by subst hK; exact pi_list hl
theorem pi_zip2K {elts : List Expr} {kk : Nat} {tp : Pos} {a b : Expr} {ta : TA} (hg : Gl X "zip") (hm : X.mg "zip" = none) (ha : PA X [a, b] ta) (hs : starEach [a, b] X.env = [(false, eval a X.env), (false, eval b X.env)] := by rfl) (hs2 : starEach [b] X.env = [(false, eval b X.env)] := by rfl) (hK : X.K = K := by rfl) :
    PI X (.Tuple elts kk tp) (.Call (.Name "zip" p) [a, b] [] pos) (iZip2 K ta) := by subst hK; exact pi_zip2 hg hm ha hs hs2
theorem pg_tupK {es : List Expr} {k : Nat} {t : TGs} (n : Nat) (h : PGs X es t) (hc : X.calm = true := by rfl) (hn : (assignEach es X.env).length = n := by rfl) (hst : (assignEach es X.env).findIdx? (·.1) = none := by rfl) (hK : X.K = K := by rfl) : PG X (.Tuple es k pos) (gTup K n t) := by
  subst hK; exact pg_tup hc h hn hst
theorem pt_truthK {a : Expr} {ta : TE} (ha : PE X a ta) (he : ∀ whole, isTrue a X.env whole = (do let v ← whole; standAt a.pos; holding [v] (truthy v)) := by intro _; rfl) (hK : X.K = K := by rfl) : PT X a (tTru K ta) := by
  subst hK; exact pt_truthN ha he
theorem pe_bmK {o e : Expr} {es : List Expr} {to : TE} {t : TA} {name : Str} {apos cpos : Pos} {T id : String} {r : V → List V → Hp → VK → Prop} (pa : PlainAttrs T) (slot : Slot T name id) (hty : typeOf (.builtin id) = pure (.type "method_descriptor")) (hm : MtR X id r) (ho : PE X o to) (ha : PA X (e :: es) t)
    (hbase : attributeBase o name X.env (eval o X.env) = eval o X.env := by rfl)
    (hfew : ((backTo cpos (starEach (e :: es) X.env)).all (fun x => !x.1) && (backToKw cpos (keywordEach [] X.env)).all (fun x => x.1.isSome)
      && decide ((e :: es).length + ([] : List Keyword).length + (if ([] : List Keyword).isEmpty then 0 else 1) < 30)) = true := by rfl)
    (hline : (apos.endLine == cpos.line) = true := by rfl) (hs : starEach (e :: es) X.env = (false, eval e X.env) :: starEach es X.env := by rfl) (hplain : (backTo cpos (starEach es X.env)).any (·.1) = false := by rfl) (hK : X.K = K := by rfl) :
    PE X (.Call (.Attribute o name apos) (e :: es) [] cpos) (tBM K T r to t) := by
  subst hK; exact pe_bm pa slot hty hm ho ha hbase hfew hline hs hplain
end
end L2
namespace L2
open PySem PySem.Spec PyProof.Rows
section
variable {K : PySem.W.Frag} {H : Hp} {Q : VK} {n : Nat}
theorem pd_tup {t : Addr} {ds : List PyData} {xs : List V} (h : SqT K H t xs) (p : Paired (PdAt K H n) ds xs) : PdAt K H (n + 1) (.tuple ds) (.ref t) := ⟨t, xs, rfl, h, p⟩
theorem pd_lst {t : Addr} {ds : List PyData} {xs : List V} (h : SqL K H t xs) (p : Paired (PdAt K H n) ds xs) : PdAt K H (n + 1) (.list ds) (.ref t) := ⟨t, xs, rfl, h, p⟩
theorem i_neSame {x y : V} (d : PyData) (hx : PdAt K H 9 d x) (hy : PdAt K H 9 d y) (q : Q (.bl false) H) : rNeP K x y H Q := ⟨d, d, hx, hy, by
  rw [PySem.SeqAt.eqv_refl d (pd_shape 9 d x hx).1]; exact q⟩
end
end L2
namespace L2
open PySem PySem.Spec PyProof.Rows
end L2


set_option Elab.async false
set_option linter.all false
set_option maxRecDepth 100000
namespace L2
open PySem PySem.Spec PyProof.Rows
/-- lo, lo - 1, .. (n of them) -/
def Itd (lo : Int) (n : Nat) : It := ⟨fun i _ => i < n, fun i H x H' => H' = H ∧ x = .int (lo - i), fun i _ => n ≤ i⟩
theorem turn_down {P : Program} {w : World} {K : PySem.W.Frag} {tg : Expr} (it : Addr) (lo : Int) (n : Nat) : Turn P w K tg (Itd lo n) [it] it (fun i h => IsRangeIter h it (lo + (i : Nat) * (-1)) ((n : Int) - (i : Nat)) (-1)) where
  mem := by simp
  obj := fun i h st b hb => by
    have e : b = it := by simpa using hb
    subst e
    exact ⟨_, st, fun v z => by
      have z' : Data.fields _ = Data.cell v := z
      cases z'⟩
  keep := fun i h h' st k => k it (by simp) _ st
  item := by
    intro X hP hw hK hc i pins s σ H E I hf st hg
    subst hP hw hK
    obtain ⟨f0, f1, f2, f3, f4, f5⟩ := hf it (by simp)
    have W := Walks.range (prog := X.prog) (w := X.w) (I.ok.hd hc) it lo (-1) n
    refine W.item i s _ _ hg st fun v h' tk hv st' kk => ?_
    obtain ⟨t, rfl⟩ := hv
    have I1 : Inv X pins σ H { s with heap := h', toks := tk } := I.turned (fun b o hb e => kk b o (by simpa using hb) e) f0 f1 f3 f4 f5
    refine ⟨_, rfl, go_of (s := { s with heap := h', toks := tk }) (n := "range_iterator") st' rfl rfl (by decide) ⟨.int (lo - i), H, I1, ⟨t, ?_⟩, ⟨rfl, rfl⟩, st', fun b hb => (hf b hb).1⟩⟩
    congr 1
    omega
  done := by
    intro X hP hw hK hc i pins s σ H E I hf st hg
    subst hP hw hK
    obtain ⟨f0, f1, f2, f3, f4, f5⟩ := hf it (by simp)
    exact wpAny_pyNext_range_end (I.ok.hd hc) st (by have : n ≤ i := hg; omega) fun h' eb => ⟨rfl, I.turned (t' := s.toks) (fun b o hb e => eb b o hb e) f0 f1 f3 f4 f5⟩
  self := fun _ _ _ _ _ st h => wpAny_pyIter_rangeiter st h
theorem rangeSize_down (a b : Int) : Builtin.Range.rangeSize a b (-1) = if a > b then a - b else 0 := by
  unfold Builtin.Range.rangeSize
  simp only [show ¬ ((-1 : Int) > 0) by decide, if_false, Int.neg_neg, Int.ediv_one]
  split <;> omega
theorem small_down {a b : Int} (ha : -(2 ^ 62) ≤ a) (ha' : a < 2 ^ 62) (hb : -(2 ^ 62) ≤ b) (hb' : b < 2 ^ 62) : Builtin.Range.small a b (-1) = true := by
  unfold Builtin.Range.small
  rw [rangeSize_down]
  simp only [Builtin.Range.rangeFitsLong, Bool.and_eq_true, Bool.or_eq_true, decide_eq_true_eq, beq_iff_eq, show ¬ ((-1 : Int) > 0) by decide, if_false]
  split <;> omega
section
variable {X : Cx} {tg : Expr}
theorem range_itd {pins : List (Addr × Obj)} {σ : St} {H : Hp} {s : Shared} {R : It → Hp → Prop} {E : Value → Shared → Prop} {lo hi : Int} {t u v : Tok} {tk : Nat} (I : Inv X pins σ H s) (h1 : -(2 ^ 62) ≤ lo) (h2 : lo < 2 ^ 62) (h3 : -(2 ^ 62) ≤ hi) (h4 : hi < 2 ^ 62)
    (q : R (Itd lo (lo - hi).toNat) H) : wpAny (model X.prog X.w) X.A (pyIter (.ref s.heap.objs.size)) (PIE X pins σ tg R) E { s with heap := s.heap.push { cls := .type "range", data := .fields #[.int lo t, .int hi u, .int (-1) v] }, toks := tk } := by
  refine wpAny_pyIter_range (IsRange.new ..) (small_down h1 h2 h3 h4) ?_
  have I1 : Inv X pins σ H { s with heap := s.heap.push { cls := .type "range", data := .fields #[.int lo t, .int hi u, .int (-1) v] }, toks := tk } := I.kept fun b o e => Heap.get?_push_of_some _ e
  refine ⟨(s.heap.push { cls := .type "range", data := .fields #[.int lo t, .int hi u, .int (-1) v] }).objs.size, [(s.heap.push { cls := .type "range", data := .fields #[.int lo t, .int hi u, .int (-1) v] }).objs.size], _, _, H, rfl,
    I1.kept (t' := tk) fun b o e => Heap.get?_push_of_some _ e, turn_down _ lo (lo - hi).toNat, ?_, fun b hb => ?_, q⟩
  · have e1 : lo + ((0 : Nat) : Int) * (-1) = lo := by simp
    have e2 : (((lo - hi).toNat : Nat) : Int) - ((0 : Nat) : Int) = Builtin.Range.rangeSize lo hi (-1) := by rw [rangeSize_down]; split <;> omega
    show IsRangeIter _ _ (lo + ((0 : Nat) : Int) * (-1)) ((((lo - hi).toNat : Nat) : Int) - ((0 : Nat) : Int)) (-1)
    rw [e1, e2]
    exact Heap.get?_push_size _ rfl
  · have e : b = (s.heap.push { cls := .type "range", data := .fields #[.int lo t, .int hi u, .int (-1) v] }).objs.size := by simpa using hb
    subst e
    exact I1.fpOk (Nat.le_refl _) (I1.hok.fresh (Nat.le_refl _))
def iRng3 (ta : TA) : TI := fun σ H R => ta σ H fun vs H1 => ∃ i j : Int, vs = [.int i, .int j, .int (-1)] ∧ (-(2 ^ 62) ≤ i ∧ i < 2 ^ 62 ∧ -(2 ^ 62) ≤ j ∧ j < 2 ^ 62) ∧ R (Itd i (i - j).toNat) H1
theorem pi_range3 {a b c : Expr} {ta : TA} {p pos : Pos} (hg : Gl X "range") (hm : X.mg "range" = none) (ha : PA X [a, b, c] ta) (hs : starEach [a, b, c] X.env = [(false, eval a X.env), (false, eval b X.env), (false, eval c X.env)] := by rfl) (hs2 : starEach [b, c] X.env = [(false, eval b X.env), (false, eval c X.env)] := by rfl) :
    PI X tg (.Call (.Name "range" p) [a, b, c] [] pos) (iRng3 ta) := by
  intro pins s σ H R I h
  refine Call_ (ld_blt I hg hm boot_range (PyProof.Rows.callWith_type1 (thn (ha pos pins s σ H _ I h) fun us s1 ⟨vs, H1, I1, r1, q1⟩ => ?_) (by rw [hs, hs2]) (by rw [hs2]; rfl)))
  obtain ⟨i, j, e, ⟨q1, q2, q3, q4⟩, q⟩ := q1
  subst e
  cases r1 with
  | cons r rr =>
    cases rr with
    | cons r' rr =>
      cases rr with
      | cons r'' rr =>
        cases rr
        obtain ⟨t, rfl⟩ := r
        obtain ⟨t', rfl⟩ := r'
        obtain ⟨t'', rfl⟩ := r''
        exact call_range_3 (by decide) (range_itd I1 q1 q2 q3 q4 q) (.inl (PyProof.noPylong_small (by omega)))
end
section
variable {K : PySem.W.Frag} {g : TG} {tb : TS} {D : Ends} {σ : St} {H : Hp}
theorem lp_down {lo : Int} {n : Nat} (Pv : Nat → St → Hp → Prop) (h0 : Pv 0 σ H)
    (hs : ∀ i σ H, i < n → Pv i σ H → g (.int (lo - i)) σ H fun σ2 H2 => tb { D with nx := Pv (i + 1), ct := Pv (i + 1), bk := D.nx } σ2 H2) (hd : ∀ σ H, Pv n σ H → D.nx σ H) : LoopI (Itd lo n) g tb D σ H := by
  refine ⟨fun i m σ H => m = n - i ∧ i ≤ n ∧ Pv i σ H, ⟨n, by simp, Nat.zero_le _, h0⟩, ?_⟩
  rintro i m σ H ⟨rfl, hi, p⟩
  by_cases hlt : i < n
  · refine .inr ⟨hlt, Pv (i + 1), fun σ' H' p' => ⟨n - (i + 1), by omega, rfl, hlt, p'⟩, fun x H' y => ?_⟩
    obtain ⟨e, y⟩ := y
    subst e y
    exact hs i σ _ hlt p
  · have e : i = n := by omega
    subst e
    exact .inl ⟨Nat.le_refl _, hd σ H p⟩
theorem lp_tup {a : Addr} {xs : List V} (Pv : Nat → St → Hp → Prop) (h0 : Pv 0 σ H) (hl : ∀ i σ H, i ≤ xs.length → Pv i σ H → SqT K H a xs)
    (hs : ∀ i x σ H, xs[i]? = some x → Pv i σ H → g x σ H fun σ2 H2 => tb { D with nx := Pv (i + 1), ct := Pv (i + 1), bk := D.nx } σ2 H2) (hd : ∀ σ H, Pv xs.length σ H → D.nx σ H) : LoopI (Itt K a) g tb D σ H := by
  refine ⟨fun i m σ H => m = xs.length - i ∧ i ≤ xs.length ∧ Pv i σ H, ⟨_, rfl, Nat.zero_le _, h0⟩, ?_⟩
  rintro i m σ H ⟨rfl, hi, p⟩
  have q := hl i σ H hi p
  by_cases hlt : i < xs.length
  · refine .inr ⟨⟨xs, xs[i], q, by simp [hlt]⟩, Pv (i + 1), fun σ' H' p' => ⟨_, by omega, rfl, hlt, p'⟩, fun x H' y => ?_⟩
    obtain ⟨e, y⟩ := y
    subst e
    exact hs i x σ _ (y xs q) p
  · have e : i = xs.length := by omega
    subst e
    exact .inl ⟨⟨xs, q, Nat.le_refl _⟩, hd σ H p⟩
end
section
variable {X : Cx} (K : PySem.W.Frag)
theorem pi_tupK {tg l : Expr} {tl : TE} (hl : PE X l tl) (hK : X.K = K := by rfl) : PI X tg l (iTup K tl) := by subst hK; exact pi_tup hl
/-- all of a list of truths -/
def rAll (K : PySem.W.Frag) : List V → Hp → VK → Prop := fun xs H Q => ∃ (p : Addr) (bs : List Bool), xs = [.ref p] ∧ SqL K H p (bs.map V.bl) ∧ Q (.bl (bs.all id)) H
/-- is, is not of truths -/
def rIsB (neg : Bool) : R2 := fun x y H Q => ∃ a b : Bool, x = .bl a ∧ y = .bl b ∧ Q (.bl (if neg then !decide (a = b) else decide (a = b))) H
theorem i_isB {a b : Bool} {H : Hp} {Q : VK} (q : Q (.bl (decide (a = b))) H) : rIsB false (.bl a) (.bl b) H Q := ⟨a, b, rfl, rfl, q⟩
theorem i_isNotB {a b : Bool} {H : Hp} {Q : VK} (q : Q (.bl (!decide (a = b))) H) : rIsB true (.bl a) (.bl b) H Q := ⟨a, b, rfl, rfl, q⟩
end
end L2

set_option Elab.async false
set_option linter.all false
set_option maxRecDepth 100000
/-! An exception on its way through the frames, with its own dict known to be none. -/
namespace L2
open PySem PySem.Spec PyProof.Rows
theorem dict_mapFields (o : Obj) (g : Array Value → Array Value) : (o.mapFields g).dict = o.dict := by
  rcases o with ⟨c, d, dt, sl⟩
  cases dt <;> rfl
/-- the exception at e and the head of its trace -/
def TrD (h B : Heap) (e : Addr) (cls fl : Value) : Prop :=
  ∃ oe vs T oT ts, h.get? e = some oe ∧ (oe.cls = cls ∧ oe.dict = none) ∧ oe.data = .fields vs ∧ vs[1]? = some (.ref T) ∧ B.get? T = none ∧ T ≠ e ∧ h.get? T = some oT ∧ oT.data = .fields ts ∧ ts[3]? = some fl
structure FlyAt (B : Heap) (l : List Env) (e : Addr) (cls fl : Value) (h : Heap) : Prop where
  st : B.StaysIn h
  ne : B.get? e = none
  fr : h.FunFrames B l
  tr : TrD h B e cls fl
abbrev Fly (B : Heap) (l : List Env) (e : Addr) (cls : Value) (h : Heap) : Prop := FlyAt B l e cls .none h
theorem FlyAt.there {B : Heap} {l : List Env} {e : Addr} {cls fl : Value} {h : Heap} (x : FlyAt B l e cls fl h) : ∃ o vs, h.get? e = some o ∧ o.cls = cls ∧ o.dict = none ∧ o.data = .fields vs := by
  obtain ⟨oe, vs, T, oT, ts, h1, ⟨h2, h3⟩, h4, _⟩ := x.tr
  exact ⟨oe, vs, h1, h2, h3, h4⟩
section
variable {M : Model} {A : Around} {E : Value → Shared → Prop} {s : Shared} {B : Heap} {env : Env} {outer : List Env} {L e : Addr}
theorem fly_entry {oe : Obj} {vs : Array Value} {head : Value} {had : Bool} {Q : Unit → Shared → Prop} (hfr : A.frames = some (env :: outer)) (hl : s.heap.FunFrames B (env :: outer)) (hf : env.frame = some L) (he : s.heap.get? e = some oe) (hB : B.StaysIn s.heap) (hn : B.get? e = none) (hd : oe.data = .fields vs) (hz : 1 < vs.size) (hdn : oe.dict = none)
    (k : ∀ h', FlyAt B (env :: outer) e oe.cls (rawInt L) h' → s.heap.UpToSlots h' → Q () { s with heap := h' }) :
    wpAny M A (do let fr ← frameOf env; let pl ← entryPlaceOf L had; let tb ← EntryCells.newEntry head fr .none (rawInt L) .none pl; setField (.ref e) 1 tb) Q E s := by
  have noFr : e ∉ (env :: outer).filterMap (·.frame) := fun hm => by
    obtain ⟨_, ob, hob, hno⟩ := hl.mem hm
    rw [he] at hob
    cases hob
    exact hno vs hd
  refine wpAny_bind (wpAny_frameOf_fun hfr hl hf fun ha sa => ?_)
  refine wpAny_bind (wpAny_entryPlaceOf fun pl hpl => ?_)
  unfold EntryCells.newEntry newFields
  refine wpAny_bind (wpAny_newObj_type ?_ (hpl.sizeOk5 _ _ _ _ _))
  have ea : ha.get? e = some oe := by rw [sa.2.1 e noFr]; exact he
  have Ba : B.StaysIn ha := fun b o z => by
    rw [sa.2.1 b fun hm => by rw [(hl.mem hm).1] at z; cases z]
    exact hB b o z
  generalize hO : ({ cls := .type "traceback", dict := none, data := .fields ([head, .ref L, .none, rawInt L, .none] ++ (if pl.isEmpty then List.replicate 6 Value.none else pl)).toArray } : Obj) = oT
  have hOd : oT.data = .fields ([head, .ref L, .none, rawInt L, .none] ++ (if pl.isEmpty then List.replicate 6 Value.none else pl)).toArray := by rw [← hO]
  have hOf : oT.isFreed = false := Obj.isFreed_of_fields hOd
  have eb : (ha.push oT).get? e = some oe := Heap.get?_push_of_some _ ea
  have Tb : (ha.push oT).get? ha.objs.size = some oT := Heap.get?_push_size _ hOf
  have Te : ha.objs.size ≠ e := fun z => by rw [← z] at ea; exact absurd (Heap.lt_size ea) (Nat.lt_irrefl _)
  refine wpAny_setField eb hd hz (k _ ?_ ?_)
  · have md := Obj.data_mapFields hd (·.setIfInBounds 1 (Value.ref ha.objs.size))
    have ec := Heap.get?_update_self (Obj.mapFields (·.setIfInBounds 1 (Value.ref ha.objs.size))) eb (Obj.isFreed_of_fields md)
    have Tc : ((ha.push oT).update e (Obj.mapFields (·.setIfInBounds 1 (Value.ref ha.objs.size)))).get? ha.objs.size = some oT := by rw [Heap.get?_update_other _ _ (Ne.symm Te)]; exact Tb
    have kc : ∀ b o, b ≠ e → ha.get? b = some o → ((ha.push oT).update e (Obj.mapFields (·.setIfInBounds 1 (Value.ref ha.objs.size)))).get? b = some o := fun b o nb z => by
      rw [Heap.get?_update_other _ _ (Ne.symm nb)]
      exact Heap.get?_push_of_some _ z
    refine ⟨fun b o z => kc b o (fun q => by rw [q, hn] at z; cases z) (Ba b o z), hn, hl.of_keeps fun b o z hno => ?_, ⟨_, _, ha.objs.size, oT, _, ec, ⟨Obj.cls_mapFields _ _, (dict_mapFields _ _).trans hdn⟩, md, by simp [hz], ?_, Te, Tc, hOd, ?_⟩⟩
    · obtain ⟨sl, z2⟩ := sa.2.2 b o z
      exact ⟨_, kc b _ (fun q => by rw [q, he] at z; cases z; exact hno vs hd) z2, rfl⟩
    · cases q : B.get? ha.objs.size with
      | none => rfl
      | some o => exact absurd (Heap.lt_size (Ba _ _ q)) (Nat.lt_irrefl _)
    · rcases hpl with rfl | ⟨_, _, _, _, _, _, _, rfl⟩ <;> simp
  · intro b o z hno
    obtain ⟨sl, z2⟩ := sa.2.2 b o z
    refine ⟨sl, ?_⟩
    have nb : b ≠ e := fun q => by rw [q, he] at z; cases z; exact hno vs hd
    show ((ha.push oT).update e _).get? b = _
    rw [Heap.get?_update_other _ _ (Ne.symm nb)]
    exact Heap.get?_push_of_some _ z2
/-- the head's flight is set to none -/
theorem fly_lands {l : List Env} {cls fl : Value} {Q : Unit → Shared → Prop} (x : FlyAt B l e cls fl s.heap) (k : ∀ h', Fly B l e cls h' → s.heap.UpToSlots h' → Q () { s with heap := h' }) : wpAny M A (setFlight (.ref e) none) Q E s := by
  obtain ⟨x1, x2, x3, oe, vs, T, oT, ts, t1, t2, t3, t4, t5, t6, t7, t8, t9⟩ := x
  have sz : 3 < ts.size := (Array.getElem?_eq_some_iff.mp t9).1
  unfold setFlight
  refine wpAny_bind (wpAny_field t1 t3 t4 ?_)
  rw [if_pos (by simp)]
  have oth : ∀ b, b ≠ T → (s.heap.update T (Obj.mapFields (·.setIfInBounds 3 Value.none))).get? b = s.heap.get? b := fun b nb => Heap.get?_update_other _ _ (Ne.symm nb)
  have rec0 : ∀ b o, s.heap.get? b = some o → (∀ us, o.data ≠ .fields us) → b ≠ T := fun b o z hno q => by rw [q, t7] at z; cases z; exact hno ts t8
  refine wpAny_setField t7 t8 sz (k _ ⟨fun b o z => ?_, x2, x3.of_keeps fun b o z hno => ⟨o, (oth b (rec0 b o z hno)).trans z, rfl⟩, oe, vs, T, _, _, (oth e (Ne.symm t6)).trans t1, t2, t3, t4, t5, t6, Heap.get?_update_self _ t7 (Obj.isFreed_of_fields (Obj.data_mapFields t8 _)), Obj.data_mapFields t8 _, by simp [sz]⟩ fun b o z hno => ⟨o.slots, (oth b (rec0 b o z hno)).trans z⟩)
  exact (oth b fun q => by rw [q, t5] at z; cases z).trans (x1 b o z)
/-- a frame is noted, further on -/
theorem fly_looks {cls : Value} {Q : Unit → Shared → Prop} (hfr : A.frames = some (env :: outer)) (hf : env.frame = some L) (x : Fly B (env :: outer) e cls s.heap) (k : ∀ h', FlyAt B (env :: outer) e cls (rawInt L) h' → s.heap.UpToSlots h' → Q () { s with heap := h' }) : wpAny M A (noteFrame (.ref e) env) Q E s := by
  obtain ⟨x1, x2, x3, oe, vs, T, oT, ts, t1, ⟨rfl, tdn⟩, t3, t4, t5, t6, t7, t8, t9⟩ := x
  unfold noteFrame
  simp only [hf]
  refine wpAny_bind (wpAny_field t1 t3 t4 ?_)
  rw [if_pos (by simp)]
  refine wpAny_bind (wpAny_field t7 t8 t9 ?_)
  rw [if_neg (by simp [rawInt])]
  refine wpAny_bind (wpAny_setField t7 t8 (Array.getElem?_eq_some_iff.mp t9).1 ?_)
  have oth : ∀ b, b ≠ T → (s.heap.update T (Obj.mapFields (·.setIfInBounds 3 Value.none))).get? b = s.heap.get? b := fun b nb => Heap.get?_update_other _ _ (Ne.symm nb)
  have rec0 : ∀ b o, s.heap.get? b = some o → (∀ us, o.data ≠ .fields us) → b ≠ T := fun b o z hno q => by rw [q, t7] at z; cases z; exact hno ts t8
  refine fly_entry (s := { s with heap := s.heap.update T (Obj.mapFields (·.setIfInBounds 3 Value.none)) }) hfr (x3.of_keeps fun b o z hno => ⟨o, (oth b (rec0 b o z hno)).trans z, rfl⟩) hf ((oth e (Ne.symm t6)).trans t1)
    (fun b o z => (oth b fun q => by rw [q, t5] at z; cases z).trans (x1 b o z)) x2 t3 (Array.getElem?_eq_some_iff.mp t4).1 tdn fun h' f u => k h' f fun b o z hno => u b o ((oth b (rec0 b o z hno)).trans z) hno
theorem fly_out {l : List Env} {cls fl : Value} {h : Heap} (x : FlyAt B (env :: l) e cls fl h) : FlyAt B l e cls fl h := ⟨x.st, x.ne, x.fr.2.2, x.tr⟩
/-- an exception goes on through a frame -/
theorem fly_on {cls : Value} {Q : Unit → Shared → Prop} (hfr : A.frames = some (env :: outer)) (hf : env.frame = some L) (x : Fly B (env :: outer) e cls s.heap) (k : ∀ h', Fly B outer e cls h' → s.heap.UpToSlots h' → Q () { s with heap := h' }) : wpAny M A (leaving env (.ref e)) Q E s := by
  unfold leaving
  refine wpAny_bind (fly_looks hfr hf x fun h1 f1 u1 => ?_)
  exact fly_lands (s := { s with heap := h1 }) f1 fun h2 f2 u2 => k h2 (fly_out f2) (u1.trans u2)
/-- a new exception leaves its first frame -/
theorem fly_made {h : Heap} {cls : Value} {args : List Value} {Q : Unit → Shared → Prop} (hfr : A.frames = some (env :: outer)) (hf : env.frame = some L) (hB : B.StaysIn h) (hl : h.FunFrames B (env :: outer)) (hx : Heap.MadeExcOf h s.heap e cls args)
    (k : ∀ h', Fly B outer e cls h' → s.heap.UpToSlots h' → Q () { s with heap := h' }) : wpAny M A (leaving env (.ref e)) Q E s := by
  obtain ⟨t, he, _, _⟩ := hx.there
  have hn : B.get? e = none := by
    cases q : B.get? e with
    | none => rfl
    | some o =>
      have := hB e o q
      rw [hx.new] at this
      cases this
  unfold leaving noteFrame
  simp only [hf]
  refine wpAny_bind (wpAny_bind (wpAny_field he rfl (x := .none) rfl ?_))
  rw [if_neg (by decide)]
  refine fly_entry hfr (hl.of_keeps fun b o z _ => ⟨o, hx.keeps b o z, rfl⟩) hf he (fun b o z => hx.keeps b o (hB b o z)) hn rfl (by simp) rfl fun h1 f1 u1 => ?_
  exact fly_lands (s := { s with heap := h1 }) f1 fun h2 f2 u2 => k h2 (fly_out f2) (u1.trans u2)
end
end L2

set_option Elab.async false
set_option linter.all false
set_option maxRecDepth 100000
/-! Exceptions over the layer: an exception that a call lets out, and how it leaves the frames. (Part of a road that is not finished: see NOTES.md.) -/
namespace L2
open PySem PySem.Spec PyProof.Rows
section
variable {P : Program} {w : World} {H : Hp} {h h' : Heap} {a : Addr} {o : HO}
theorem ObjOk.there (x : ObjOk P w H h a o) : ∃ ob, h.get? a = some ob := by
  cases o with
  | lst xs => obtain ⟨_, _, _, _, e⟩ := x; exact ⟨_, e⟩
  | tup xs => obtain ⟨_, _, _, ob, e, _⟩ := x; exact ⟨_, e⟩
  | dK kvs => obtain ⟨_, _, _, _, o, _, _, e, _⟩ := x; exact ⟨_, e⟩
  | dT kvs => obtain ⟨_, _, _, _, o, _, _, e, _⟩ := x; exact ⟨_, e⟩
  | set S n => obtain ⟨o, _, _, _, e, _⟩ := x; exact ⟨_, e⟩
  | ins C dx fs => obtain ⟨_, _, _, e, _⟩ := x; exact ⟨_, e⟩
  | own y => obtain ⟨_, e⟩ := x; exact ⟨_, e⟩
  | xd fs => obtain ⟨_, ⟨_, _, _, e, _⟩, _⟩ := x; exact ⟨_, e⟩
  | rng lo hi => obtain ⟨_, _, _, e⟩ := x; exact ⟨_, e⟩
  | frz ob u => obtain ⟨e, _⟩ := x; exact ⟨_, e⟩
  | tbl ps => exact ⟨_, (show h.get? a = some _ from x)⟩
  | met f y => exact ⟨_, (show h.get? a = some _ from x)⟩
  | ext φ => obtain ⟨_, e, _⟩ := x; exact e
/-- only the tracked objects count -/
theorem HOk.tracked (x : HOk P w H h) (k : ∀ b u, H b ≠ none → h.get? b = some u → h'.get? b = some u) : HOk P w H h' := fun b u e =>
  (x b u e).stay (fun c v hc q => k c v (by rcases hc with z | z <;> rw [z] <;> simp_all) q) (fun _ z => z) (fun _ _ z => z)
end
/-- an exception behind a call: a new object e of class cls; B keeps all that was there but the frames -/
def CXE (P : Program) (w : World) : CXT := fun outer H s E v s' => ∃ (e : Addr) (cls : Value) (B : Heap) (H' : Hp), v = .ref e ∧ s'.os = s.os ∧ AllBare s'.gens ∧ Un (frs outer) [] H H' s.heap s'.heap ∧ HOk P w H' s'.heap ∧
  Fly B outer e cls s'.heap ∧ (∀ b o, s.heap.get? b = some o → b ∉ frs outer → ∃ o', B.get? b = some o') ∧ (∀ b, H' b ≠ none → ∃ o, B.get? b = some o) ∧ E cls none H'
section
variable {P : Program} {w : World} {K : PySem.W.Frag} {mg : Str → Option Value} {base : Heap} {N : List Str} {qual : Str} {scope : Scope} {f : Addr} {cd : Value} {A : Around} {outer : List Env} {s : Shared} {H : Hp} {E : XK}
/-- a new exception leaves the body -/
theorem xe_made {pins : List (Addr × Obj)} {σ : St} {H1 : Hp} {s1 : Shared} {h1 : Heap} {e : Addr} {cls : Value} {vs : List Value}
    (I : Inv ((cxOf (CXE P w) P w K mg base N qual scope f cd A outer s H E)) pins σ H1 s1) (hx : Heap.MadeExcOf s1.heap h1 e cls vs) (q : E cls none H1) :
    (cxOf (CXE P w) P w K mg base N qual scope f cd A outer s H E).xe (.ref e) { s1 with heap := h1 } := by
  have hst : s1.heap.FunFrames base (envOfC qual scope s.heap.objs.size f cd :: outer) := I.stack
  have hfr : (A.deeper (envOfC qual scope s.heap.objs.size f cd)).frames = some (envOfC qual scope s.heap.objs.size f cd :: outer) := I.ok.frames
  have hin : ∀ env ∈ (envOfC qual scope s.heap.objs.size f cd :: outer), ∀ b, env.frame = some b → b ∈ frs (envOfC qual scope s.heap.objs.size f cd :: outer) := fun env he b hb => List.mem_filterMap.mpr ⟨env, he, hb⟩
  have hB := PySem.W.funFrames_hide hst hin
  have hloc : (envOfC qual scope s.heap.objs.size f cd).frame = some s.heap.objs.size := rfl
  have hfree : ∀ b ∈ frs (envOfC qual scope s.heap.objs.size f cd :: outer), H1 b = none := I.stkFree
  have hcons : frs (envOfC qual scope s.heap.objs.size f cd :: outer) = s.heap.objs.size :: frs outer := by unfold frs; rw [List.filterMap_cons, hloc]
  refine fly_made (B := PySem.W.hideAll s1.heap (frs (envOfC qual scope s.heap.objs.size f cd :: outer))) hfr hloc (fun b o z => PySem.W.of_hideAll _ z) hB hx fun h2 k1 k4 => ?_
  generalize hBB : PySem.W.hideAll s1.heap (frs (envOfC qual scope s.heap.objs.size f cd :: outer)) = B at *
  have toB : ∀ b o, s1.heap.get? b = some o → b ∉ frs (envOfC qual scope s.heap.objs.size f cd :: outer) → B.get? b = some o := fun b o z n => by rw [← hBB]; exact PySem.W.hideAll_get _ z n
  have keepAll : ∀ b o, s1.heap.get? b = some o → b ∉ frs (envOfC qual scope s.heap.objs.size f cd :: outer) → h2.get? b = some o := fun b o z n => k1.st b o (toB b o z n)
  have base0 : Un (frs outer) [] H H1 s.heap s1.heap := I.base
  have notLoc : ∀ b o, s.heap.get? b = some o → b ∉ frs outer → b ∉ frs (envOfC qual scope s.heap.objs.size f cd :: outer) := fun b o z n hm => by
    rw [hcons] at hm
    rcases List.mem_cons.mp hm with e | e
    · exact absurd (Heap.lt_size z) (by rw [e]; exact Nat.lt_irrefl _)
    · exact n e
  have trackedB : ∀ b u, H1 b = some u → ∃ o, B.get? b = some o := fun b u z => by
    obtain ⟨o, ho⟩ := (I.hok b u z).there
    exact ⟨o, toB b o ho fun hm => by rw [hfree b hm] at z; cases z⟩
  refine ⟨e, cls, B, H1, rfl, I.os, I.bare, ?_, ?_, k1, ?_, ?_, q⟩
  · refine ⟨fun b o z n hb hx' => keepAll b o (base0.keep b o z n hb hx') (notLoc b o z hb), fun b o z n hb hx' => ?_, base0.free, fun b o z hx' => ?_, base0.tups, base0.frzs, base0.tbls⟩
    · obtain ⟨sl, z1⟩ := base0.slot b o z n hb hx'
      have hm : b ∈ frs (envOfC qual scope s.heap.objs.size f cd :: outer) := by rw [hcons]; exact List.mem_cons_of_mem _ hb
      obtain ⟨_, o', ho', hd⟩ := hst.mem hm
      rw [z1] at ho'
      cases ho'
      obtain ⟨sl2, z2⟩ := k4 b _ (hx.keeps b _ z1) hd
      exact ⟨sl2, z2⟩
    · obtain ⟨o1, z1⟩ := base0.there b o z hx'
      by_cases hm : b ∈ frs (envOfC qual scope s.heap.objs.size f cd :: outer)
      · obtain ⟨_, o', ho', hd⟩ := hst.mem hm
        rw [z1] at ho'
        cases ho'
        obtain ⟨sl2, z2⟩ := k4 b _ (hx.keeps b _ z1) hd
        exact ⟨_, z2⟩
      · exact ⟨o1, keepAll b o1 z1 hm⟩
  · exact HOk.tracked I.hok fun b u n z => keepAll b u z fun hm => n (hfree b hm)
  · intro b o z n
    obtain ⟨o1, z1⟩ := base0.there b o z (by simp)
    exact ⟨o1, toB b o1 z1 (notLoc b o z n)⟩
  · intro b n
    cases z : H1 b with
    | none => exact absurd z n
    | some u => exact trackedB b u z
/-- an exception of a callee leaves the body -/
theorem pass_exc {E' : XK} (hE : ∀ c d H', E' c d H' → E c d H') : Passes (CXE P w) (cxOf (CXE P w) P w K mg base N qual scope f cd A outer s H E) E' := by
  rintro pins σ H1 s1 v s2 I ⟨e, cls, B, H2, rfl, os, bare, un, hok, hfl, hfresh, htr, q⟩
  have hst : s1.heap.FunFrames base (envOfC qual scope s.heap.objs.size f cd :: outer) := I.stack
  have hfr : (A.deeper (envOfC qual scope s.heap.objs.size f cd)).frames = some (envOfC qual scope s.heap.objs.size f cd :: outer) := I.ok.frames
  have hloc : (envOfC qual scope s.heap.objs.size f cd).frame = some s.heap.objs.size := rfl
  have hcons : frs (envOfC qual scope s.heap.objs.size f cd :: outer) = s.heap.objs.size :: frs outer := by unfold frs; rw [List.filterMap_cons, hloc]
  have base0 : Un (frs outer) [] H H1 s.heap s1.heap := I.base
  have un' : Un (frs (envOfC qual scope s.heap.objs.size f cd :: outer)) [] H1 H2 s1.heap s2.heap := un
  have hfl' : Fly B (envOfC qual scope s.heap.objs.size f cd :: outer) e cls s2.heap := hfl
  have hfresh' : ∀ b o, s1.heap.get? b = some o → b ∉ frs (envOfC qual scope s.heap.objs.size f cd :: outer) → ∃ o', B.get? b = some o' := hfresh
  have hfree : ∀ b ∈ frs (envOfC qual scope s.heap.objs.size f cd :: outer), H1 b = none := I.stkFree
  refine fly_on (s := s2) hfr hloc hfl' fun h3 k1 k2 => ?_
  have notLoc : ∀ b o, s.heap.get? b = some o → b ∉ frs outer → b ∉ frs (envOfC qual scope s.heap.objs.size f cd :: outer) := fun b o z n hm => by
    rw [hcons] at hm
    rcases List.mem_cons.mp hm with e | e
    · exact absurd (Heap.lt_size z) (by rw [e]; exact Nat.lt_irrefl _)
    · exact n e
  have inB : ∀ b o, s2.heap.get? b = some o → (∃ o', B.get? b = some o') → h3.get? b = some o := fun b o z ⟨o', z'⟩ => by
    have := hfl'.st b o' z'
    rw [z] at this
    cases this
    exact k1.st b o z'
  refine ⟨e, cls, B, H2, rfl, os.trans I.os, bare, ?_, ?_, k1, ?_, htr, hE _ _ _ q⟩
  · refine ⟨fun b o z n hb hx' => ?_, fun b o z n hb hx' => ?_, fun b o z n hx' => ?_, fun b o z hx' => ?_, fun b xs z => un'.tups b xs (base0.tups b xs z), fun b o u z => un'.frzs b o u (base0.frzs b o u z), fun b ps z => ?_⟩
    · have z1 := base0.keep b o z n hb hx'
      have n1 := base0.free b o z n hx'
      have nb := notLoc b o z hb
      exact inB b o (un'.keep b o z1 n1 nb hx') (hfresh' b o z1 nb)
    · obtain ⟨sl, z1⟩ := base0.slot b o z n hb hx'
      have n1 := base0.free b o z n hx'
      have hm : b ∈ frs (envOfC qual scope s.heap.objs.size f cd :: outer) := by rw [hcons]; exact List.mem_cons_of_mem _ hb
      obtain ⟨sl2, z2⟩ := un'.slot b _ z1 n1 hm hx'
      obtain ⟨_, o', ho', hd⟩ := hst.mem hm
      rw [z1] at ho'
      cases ho'
      obtain ⟨sl3, z3⟩ := k2 b _ z2 hd
      exact ⟨sl3, z3⟩
    · obtain ⟨sl, z1⟩ := base0.any z n hx'
      exact un'.free b _ z1 (base0.free b o z n hx') hx'
    · obtain ⟨o1, z1⟩ := base0.there b o z hx'
      obtain ⟨o2, z2⟩ := un'.there b o1 z1 hx'
      by_cases hm : b ∈ frs (envOfC qual scope s.heap.objs.size f cd :: outer)
      · obtain ⟨_, o', ho', hd⟩ := hfl'.fr.mem hm
        rw [z2] at ho'
        cases ho'
        obtain ⟨sl3, z3⟩ := k2 b _ z2 hd
        exact ⟨_, z3⟩
      · exact ⟨o2, inB b o2 z2 (hfresh' b o1 z1 hm)⟩
    · obtain ⟨m1, z1⟩ := base0.tbls b ps z
      obtain ⟨m2, z2⟩ := un'.tbls b _ z1
      exact ⟨m1 ++ m2, by rw [z2, Array.append_assoc]⟩
  · exact HOk.tracked hok fun b u n z => inB b u z (htr b n)
  · intro b o z n
    obtain ⟨o1, z1⟩ := base0.there b o z (by simp)
    exact hfresh' b o1 z1 (notLoc b o z n)
end
end L2
namespace L2
open PySem PySem.Spec PyProof.Rows
/-! ### raise of an own class -/
theorem exc_obj {K : PySem.W.Frag} {h : Heap} {C : Addr} {bmB : List Value} {newId : String} (kin : K.In h) (hq : PySem.W.excIn K C bmB newId = true) :
    ∃ bm nsp nm qn bs hd sn sub ab col dd k0 k1 k2 k3 k5 mN, h.get? C = some (excClassObj nm qn C nsp bs bm hd sn sub ab col dd k0 k1 k2 k3 k5 newId) ∧ h.Ns nsp mN ∧ mN "__init__" = none ∧ OwnTail h bmB bm := by
  unfold PySem.W.excIn at hq
  split at hq
  case h_2 => cases hq
  case h_1 dd cd sl look =>
    split at hq
    case h_2 => cases hq
    case h_1 C' bm k0 k1 k2 k3 n k5 mroE slE =>
      simp only [Bool.and_eq_true, beq_iff_eq, Bool.not_eq_true'] at hq
      obtain ⟨⟨⟨⟨⟨c1, c2⟩, c3⟩, c4⟩, c5⟩, c6⟩ := hq
      subst c1 c2
      rcases cd with ⟨nm, bs, mro, nsp, qn, hd, sn, sub, ab, col, del⟩
      dsimp only at mroE c3 c5 c6
      subst mroE c3
      have slA : sl = #[k0, k1, k2, k3, some (.builtin n), k5] := by
        rcases sl with ⟨lst⟩
        exact congrArg Array.mk slE
      subst slA
      exact ⟨bm, nsp, nm, qn, bs, hd, sn, sub, ab, col, dd, k0, k1, k2, k3, k5, _, kin _ _ look, .of_isNs (PySem.W.isNs_of_in kin c5), PySem.W.nsMap_none_of_in kin c5 c6, PySem.W.tail_of_in kin c4⟩
/-- what holds of an own class under a built-in exception -/
structure ExcCls (K : PySem.W.Frag) (mg : Str → Option Value) (x : Str) (C : Addr) (bmB : List Value) (newId : String) : Prop where
  at_ : mg x = some (.ref C)
  obj : PySem.W.excIn K C bmB newId = true
/-- raise x(e, ..): E of the class -/
def tRaise (C : Addr) (E : XK) (t : TA) : TS := fun _ σ H => t σ H fun vs H1 => vs.length ≤ 3 ∧ E (.ref C) none H1
section
variable {P : Program} {w : World} {K : PySem.W.Frag} {mg : Str → Option Value} {base : Heap} {N : List Str} {qual : Str} {scope : Scope} {f : Addr} {cd : Value} {A : Around} {outer : List Env} {s : Shared} {H : Hp} {E : XK}
theorem ps_raise {x : Str} {C : Addr} {bmB : List Value} {B newId initId : String} {np cpos pos : Pos} {e0 : Expr} {es : List Expr} {t : TA} (hc : ExcCls K mg x C bmB newId) (F : ExcBaseFacts B newId initId bmB)
    (hg : Gl (cxOf (CXE P w) P w K mg base N qual scope f cd A outer s H E) x) (ha : PA (cxOf (CXE P w) P w K mg base N qual scope f cd A outer s H E) (e0 :: es) t)
    (he : starEach (e0 :: es) (envOfC qual scope s.heap.objs.size f cd) = (false, eval e0 (envOfC qual scope s.heap.objs.size f cd)) :: starEach es (envOfC qual scope s.heap.objs.size f cd) := by rfl)
    (hpl : (backTo cpos (starEach es (envOfC qual scope s.heap.objs.size f cd))).any (·.1) = false := by rfl) (hdb : (x == ("__debug__" : Str)) = false := by decide) :
    PS (cxOf (CXE P w) P w K mg base N qual scope f cd A outer s H E) (.Raise (some (.Call (.Name x np) (e0 :: es) [] cpos)) none pos) (tRaise C E t) := by
  intro pins s1 σ H1 D I q
  obtain ⟨bm, nsp, nm, qn, bs, hd, sn, sub, ab, col, dd, k0, k1, k2, k3, k5, mN, o1, o2, o3, o4⟩ := exc_obj I.ok.mod.kin hc.obj
  refine wpAny_Raise_call_subT F (o4.hasType F.hasBase) (I.ok.hd rfl) (by
    show (backTo cpos (starEach (e0 :: es) (envOfC qual scope s.heap.objs.size f cd))).any (·.1) = false
    rw [he]; show (false || (backTo cpos (starEach es (envOfC qual scope s.heap.objs.size f cd))).any (·.1)) = false; rw [hpl]; rfl) o3 ?_ (nm := nm) (q := qn) (C := C) (N := nsp) (bs := bs) (bm := bm) (hdct := hd) (sn := sn) (sub := sub) (ab := ab) (col := col) (dd := dd) (k0 := k0) (k1 := k1) (k2 := k2) (k3 := k3) (k5 := k5)
  refine ld_glob I hg hc.at_ ⟨rfl, ?_⟩ hdb
  have hs := ha cpos pins s1 σ H1 _ I q
  show wpAny _ _ (evalArgs (.ref C) true (backTo cpos (starEach (e0 :: es) (envOfC qual scope s.heap.objs.size f cd))) []) _ _ _
  change wpAny _ _ (spliced (backTo cpos (starEach (e0 :: es) (envOfC qual scope s.heap.objs.size f cd)))) _ _ _ at hs
  rw [he] at hs ⊢
  refine Calls.evalArgs_plain (wpAny_mono hs (fun us s2 h2 => ?_) fun _ _ z => z)
  obtain ⟨vs, H2, I2, r2, hl, q2⟩ := h2
  have hul : us.length ≤ 3 := by rw [← r2.length]; exact hl
  exact ⟨rfl, Nat.le_trans hul (by rw [sizeLine_eq]; decide), I2.bk _ _ o1, o2.keeps I2.bk, o4.keeps I2.bk, fun h' e hm => xe_made I2 hm q2⟩
/-- a call of a def that may raise, in such a def -/
def CalleeE (P : Program) (w : World) (K : PySem.W.Frag) (mg : Str → Option Value) (base : Heap) (x : Str) (k : Nat) (sp : Sp) : Prop :=
  ∃ f fd ps, FnOk P w K mg base (CXE P w) k f fd ps sp ∧ mg x = some (.ref f) ∧ PySem.W.keepIn K (.ref f) = true ∧ Binds K fd ps []
theorem Def.okE {x : Str} {st : Stmt} {N ps : List Str} {k : Nat} {sp : Sp} (D : Def K mg x st) (S : FnScope N ps (defScope st))
    (bd : ∀ (kV doc pm : Value) (an : Option Addr) (cdv ct : Value) (us : List Value), us.length = ps.length → bindArgs (PySem.W.fnOf x x (defArgs st) (defBody st) (defScope st) .none kV doc pm an cdv ct) ⟨us, []⟩ = pure (ps.zip us))
    (len : ∀ vs H Q E, sp vs H Q E → vs.length = ps.length)
    (hbody : ∀ (f : Addr) (cdv : Value) (A : Around) (outer : List Env) (s : Shared) (H : Hp) (vs : List V) (Q : VK) (E : XK), Room k (A.deeper (envOfC x (defScope st) s.heap.objs.size f cdv)) → sp vs H Q E →
      ∃ t, PSs (cxOf (CXE P w) P w K mg base N x (defScope st) f cdv A outer s H E) (defBody st) t ∧ t { nx := fun _ H' => Q .non H', rt := Q } (start N vs) H) : CalleeE P w K mg base x (k + 1) sp := by
  obtain ⟨f, fd, F, hm⟩ := D
  have Fk := F.kp
  have Fb := F.binds bd
  obtain ⟨oc, od, kV, doc, pm, an, cdv, ct, osl, rfl, lk, hcd⟩ := F.ex
  exact ⟨f, _, ps, fn_of lk hcd S len fun A outer s H vs Q E hr hsp => hbody f cdv A outer s H vs Q E hr hsp, hm, Fk, Fb⟩
theorem pe_callE {x : Str} {k : Nat} {sp : Sp} {e0 : Expr} {es : List Expr} {t : TA} {p pos : Pos} {E' : XK} (C : CalleeE P w K mg base x k sp) (hr : Room k (A.deeper (envOfC qual scope s.heap.objs.size f cd))) (hg : Gl (cxOf (CXE P w) P w K mg base N qual scope f cd A outer s H E) x)
    (ha : PA (cxOf (CXE P w) P w K mg base N qual scope f cd A outer s H E) (e0 :: es) t) (hE : ∀ c d H', E' c d H' → E c d H' := by exact fun _ _ _ z => z)
    (he : starEach (e0 :: es) (envOfC qual scope s.heap.objs.size f cd) = (false, eval e0 (envOfC qual scope s.heap.objs.size f cd)) :: starEach es (envOfC qual scope s.heap.objs.size f cd) := by rfl)
    (hpl : (backTo pos (starEach es (envOfC qual scope s.heap.objs.size f cd))).any (·.1) = false := by rfl) (hdb : (x == ("__debug__" : Str)) = false := by decide) :
    PE (cxOf (CXE P w) P w K mg base N qual scope f cd A outer s H E) (.Call (.Name x p) (e0 :: es) [] pos) (tCall sp [] E' t) := by
  obtain ⟨f', fd, ps, F, hm, hk, hb⟩ := C
  exact pe_call F hr hg hm hk hb .nil (pass_exc hE) ha (hdb := hdb) (he := he) (hpl := hpl)
end
end L2

set_option Elab.async false
set_option linter.all false
set_option maxRecDepth 100000
/-! A call within a try: the way of an exception up to the clause. (Not finished: the clause's suite, and calls within it, are to come; see NOTES.md.) -/
namespace L2
open PySem PySem.Spec PyProof.Rows
section
/-- what stays while the exception is looked at -/
theorem un_fly {l : List Env} {H1 H2 : Hp} {h1 h2 h3 B : Heap} (u : Un (frs l) [] H1 H2 h1 h2) (hs : B.StaysIn h2) (hf : h2.FunFrames B l) (hfresh : ∀ b o, h1.get? b = some o → b ∉ frs l → ∃ o', B.get? b = some o') (k1 : B.StaysIn h3) (k2 : h2.UpToSlots h3) : Un (frs l) [] H1 H2 h1 h3 := by
  have inB : ∀ b o, h2.get? b = some o → (∃ o', B.get? b = some o') → h3.get? b = some o := fun b o z ⟨o', z'⟩ => by
    have := hs b o' z'
    rw [z] at this
    cases this
    exact k1 b o z'
  refine ⟨fun b o z n hb hx => inB b o (u.keep b o z n hb hx) (hfresh b o z hb), fun b o z n hb hx => ?_, u.free, fun b o z hx => ?_, u.tups, u.frzs, u.tbls⟩
  · obtain ⟨sl, z1⟩ := u.slot b o z n hb hx
    obtain ⟨_, o', ho', hd⟩ := hf.mem hb
    rw [z1] at ho'
    cases ho'
    obtain ⟨sl2, z2⟩ := k2 b _ z1 hd
    exact ⟨sl2, z2⟩
  · obtain ⟨o2, z2⟩ := u.there b o z hx
    by_cases hm : b ∈ frs l
    · obtain ⟨_, o', ho', hd⟩ := hf.mem hm
      rw [z2] at ho'
      cases ho'
      obtain ⟨sl3, z3⟩ := k2 b _ z2 hd
      exact ⟨_, z3⟩
    · exact ⟨o2, inB b o2 z2 (hfresh b o z hm)⟩
theorem hok_fly {P : Program} {w : World} {H2 : Hp} {h2 h3 B : Heap} (x : HOk P w H2 h2) (hs : B.StaysIn h2) (htr : ∀ b, H2 b ≠ none → ∃ o, B.get? b = some o) (k1 : B.StaysIn h3) : HOk P w H2 h3 :=
  HOk.tracked x fun b u n z => by
    obtain ⟨o', z'⟩ := htr b n
    have := hs b o' z'
    rw [z] at this
    cases this
    exact k1 b _ z'
variable {X : Cx}
/-- the context within a try: what is pinned outside is kept, another wish -/
abbrev Cx.inTry (X : Cx) (pins : List (Addr × Obj)) (ξ : Value → Shared → Prop) : Cx := { X with pn := X.pn ++ pins, xe := ξ }
theorem Cx.Ok.inTry (ok : X.Ok) (pins : List (Addr × Obj)) (ξ : Value → Shared → Prop) : (X.inTry pins ξ).Ok :=
  ⟨ok.mod, ok.kind, ok.glob, ok.blt, ok.above, ok.inj, ok.has, ok.cab, ok.hd, ok.frames, ok.stk, ok.exf, ok.bs, ok.bsz, ok.noex, ok.exfs, ok.funs, ok.frf⟩
theorem Cx.Ok.outTry {pins : List (Addr × Obj)} {ξ : Value → Shared → Prop} (ok : (X.inTry pins ξ).Ok) : X.Ok :=
  ⟨ok.mod, ok.kind, ok.glob, ok.blt, ok.above, ok.inj, ok.has, ok.cab, ok.hd, ok.frames, ok.stk, ok.exf, ok.bs, ok.bsz, ok.noex, ok.exfs, ok.funs, ok.frf⟩
theorem Inv.inTry {pins : List (Addr × Obj)} {σ : St} {H : Hp} {s : Shared} (I : Inv X pins σ H s) (ξ : Value → Shared → Prop) : Inv (X.inTry pins ξ) [] σ H s :=
  ⟨I.ok.inTry pins ξ, I.os, I.bare, I.base, I.loc, I.cell, I.free, I.freeC, fun p hp => I.pin p (by simpa using hp), I.hok, I.len⟩
theorem Inv.outTry {pins pins' : List (Addr × Obj)} {σ : St} {H : Hp} {s : Shared} {ξ : Value → Shared → Prop} (I : Inv (X.inTry pins ξ) pins' σ H s) : Inv X pins σ H s :=
  ⟨I.ok.outTry, I.os, I.bare, I.base, I.loc, I.cell, I.free, I.freeC, fun p hp => I.pin p (List.mem_append_left _ hp), I.hok, I.len⟩
/-- a call whose exceptions may ask for the variables as they are -/
def tCallS (sp : Sp) (Ex : St → XK) (t : TA) : TE := fun σ H Q => t σ H fun vs H1 => sp (vs ++ []) H1 Q (Ex σ)
def PassS (X : Cx) (Ex : St → XK) : Prop := ∀ (pins : List (Addr × Obj)) (σ : St) (H : Hp) (s : Shared) (e : Value) (s' : Shared), Inv X pins σ H s → CXE X.prog X.w X.stack H s (Ex σ) e s' → X.xe e s'
theorem pe_callS {x : Str} {k : Nat} {sp : Sp} {e : Expr} {es : List Expr} {t : TA} {p pos : Pos} {Ex : St → XK} (C : CalleeE X.prog X.w X.K X.mg X.base x k sp) (hr : Room k X.A) (hg : Gl X x) (hx : PassS X Ex) (ha : PA X (e :: es) t)
    (he : starEach (e :: es) X.env = (false, eval e X.env) :: starEach es X.env := by rfl) (hpl : (backTo pos (starEach es X.env)).any (·.1) = false := by rfl) (hdb : (x == ("__debug__" : Str)) = false := by decide) :
    PE X (.Call (.Name x p) (e :: es) [] pos) (tCallS sp Ex t) := by
  obtain ⟨f, fd, ps, F, hm, hk, hb⟩ := C
  intro pins s σ H Q I h
  refine wpAny_Call_Name_kw (ld_glob I hg hm ?_ hdb)
  refine PySem.W.callWith_K (h₀ := X.base) I.ok.mod.kin hk (thn (ha pos pins s σ H _ I h) fun us s1 ⟨vs, H1, I1, r, q⟩ => ⟨I1.kIn, ?_⟩) he hpl
  have r2 : Vals (vs ++ []) (us ++ []) := r.append .nil
  have hl : (us ++ []).length = ps.length := by rw [← r2.length]; exact F.len _ _ _ _ q
  refine wpAny_call (codeAny_mono (F.run X.A X.stack s1 H1 ⟨us, []⟩ (us ++ []) (vs ++ []) Q (Ex σ) hr I1.env0 (hb s1 us I1.kIn hl) r2 q) fun r3 s' hq => ?_)
  cases r3 with
  | error v => exact hx pins σ H1 s1 v s' I1 hq
  | ok fl =>
    cases fl with
    | ret u => exact I1.after hq
    | next => exact False.elim hq
    | brk => exact False.elim hq
    | cont => exact False.elim hq
/-- an object that came since the entry is tracked -/
theorem Inv.trackN {pins : List (Addr × Obj)} {σ : St} {H : Hp} {s : Shared} {D : Addr} {o : HO} (I : Inv X pins σ H s) (hn : H D = none) (hL : D ≠ X.env.locals) (h1 : X.s₀.heap.get? D = none)
    (h2 : ∀ x c, X.env.cells.lookup x = some c → c ≠ D) (h3 : ∀ p ∈ X.pn ++ pins, p.1 ≠ D) (new : ObjOk X.prog X.w (upd H D o) s.heap D o) : Inv X pins σ (upd H D o) s := by
  have up : ∀ b u, H b = some u → upd H D o b = some u := fun b u e => by rw [upd_ne (ne_of_none e hn)]; exact e
  have un : ∀ b, b ≠ D → H b = none → upd H D o b = none := fun b hb e => by rw [upd_ne hb]; exact e
  refine ⟨I.ok, I.os, I.bare, ⟨I.base.keep, I.base.slot, fun b ob e n hx => un b (fun z => by rw [z, h1] at e; cases e) (I.base.free b ob e n hx), I.base.there, fun b xs e => up _ _ (I.base.tups b xs e), fun b ob u e => up _ _ (I.base.frzs b ob u e), fun b ps e => ?_⟩,
    I.loc, I.cell, un _ (Ne.symm hL) I.free, fun x c e => un _ (h2 x c e) (I.freeC x c e), fun p hp => ?_, fun b u e => ?_, I.len⟩
  · obtain ⟨m, e'⟩ := I.base.tbls b ps e
    exact ⟨m, up _ _ e'⟩
  · obtain ⟨e, n, r⟩ := I.pin p hp
    exact ⟨e, un _ (h3 p hp) n, r⟩
  · by_cases hb : b = D
    · subst hb
      rw [upd_same] at e
      cases e
      exact new
    · rw [upd_ne hb] at e
      exact (I.hok b u e).stay (fun _ _ _ z => z) (fun c z => up _ _ z) fun c xs z => up _ _ z
/-- an exception object of the class cls lies at e -/
def ExcAt (e : Addr) (cls : Value) : Heap → Prop := fun h => ∃ o vs, h.get? e = some o ∧ o.cls = cls ∧ o.dict = none ∧ o.data = .fields vs
theorem excAt_ok {P : Program} {w : World} {H : Hp} {h : Heap} {e : Addr} {cls : Value} (x : ExcAt e cls h) : ObjOk P w H h e (.ext (ExcAt e cls)) := by
  obtain ⟨o, vs, z, c⟩ := x
  exact ⟨⟨o, vs, z, c⟩, ⟨o, z⟩, fun h1 h2 ⟨o1, vs1, z1, c1⟩ k => ⟨o1, vs1, k o1 z1, c1⟩⟩
/-- the exception has come to the clauses: where all lies then -/
theorem comes {pins : List (Addr × Obj)} {σ : St} {H1 : Hp} {s1 s2 : Shared} {Ex : XK} {v : Value} {Q : Flow → Shared → Prop} {E : Value → Shared → Prop} {hs : List ExceptHandler} (hstk : X.stack = X.env :: X.outer) (hf : X.env.frame = some X.env.locals) (hex : X.ex = []) (I : Inv X pins σ H1 s1)
    (hq : CXE X.prog X.w X.stack H1 s1 Ex v s2)
    (k : ∀ (e : Addr) (cls : Value) (B : Heap) (H2 : Hp), v = .ref e → Ex cls none H2 → H2 e = none →
      (∀ h6, Fly B X.stack e cls h6 → s2.heap.UpToSlots h6 → Inv X pins σ (upd H2 e (.ext (ExcAt e cls))) { s2 with heap := h6 }) →
      ∀ h3, Fly B X.stack e cls h3 → s2.heap.UpToSlots h3 → wpAny (model X.prog X.w) X.A (handleBy (.ref e) X.env hs) Q E { s2 with heap := h3 }) :
    wpAny (model X.prog X.w) X.A (noteFrame v X.env) (fun _ s3 => wpAny (model X.prog X.w) X.A (setFlight v none) (fun _ s4 => wpAny (model X.prog X.w) X.A (handleBy v X.env hs) Q E s4) E s3) E s2 := by
  obtain ⟨e, cls, B, H2, rfl, os, bare, un, hok, hfl, hfresh, htr, q⟩ := hq
  have hfr : X.A.frames = some (X.env :: X.outer) := by rw [← hstk]; exact I.ok.frames
  have hfl' := hfl
  rw [hstk] at hfl'
  have hnew : s1.heap.get? e = none := by
    cases z : s1.heap.get? e with
    | none => rfl
    | some o =>
      exfalso
      by_cases hm : e ∈ frs X.stack
      · obtain ⟨oe, vs, T, oT, ts, he, _, hd, _⟩ := hfl.tr
        obtain ⟨_, o', ho', hd'⟩ := hfl.fr.mem hm
        rw [he] at ho'
        cases ho'
        exact hd' vs hd
      · obtain ⟨o', z'⟩ := hfresh e o z hm
        rw [hfl.ne] at z'
        cases z'
  have hHe : H2 e = none := by
    cases z : H2 e with
    | none => rfl
    | some u =>
      obtain ⟨o, z'⟩ := htr e (by rw [z]; exact fun y => by cases y)
      rw [hfl.ne] at z'
      cases z'
  have inv6 : ∀ h6, Fly B X.stack e cls h6 → s2.heap.UpToSlots h6 → Inv X pins σ (upd H2 e (.ext (ExcAt e cls))) { s2 with heap := h6 } := fun h6 fl up => by
    have u6 : Un (frs X.stack) [] H1 H2 s1.heap h6 := un_fly un hfl.st hfl.fr hfresh fl.st up
    have I6 : Inv X pins σ H2 { s2 with heap := h6 } := I.call' (s' := { s2 with heap := h6 }) os u6 (hok_fly hok hfl.st htr fl.st) bare (fun b z => absurd z (by simp))
    have hs0 : X.s₀.heap.get? e = none := by
      cases z : X.s₀.heap.get? e with
      | none => rfl
      | some o =>
        obtain ⟨o', z'⟩ := I.base.there e o z (by rw [hex]; simp)
        rw [hnew] at z'
        cases z'
    refine I6.trackN hHe (fun z => ?_) hs0 (fun x c hc z => ?_) (fun p hp z => ?_) (excAt_ok fl.there)
    · obtain ⟨m, hn, _⟩ := I.loc
      obtain ⟨o, _, _, ho, _⟩ := hn
      rw [← z, hnew] at ho
      cases ho
    · obtain ⟨v', o, ho, _⟩ := I.cell x c hc
      rw [z, hnew] at ho
      cases ho
    · have := (I.pin p hp).1
      rw [z, hnew] at this
      cases this
  refine fly_looks (s := s2) hfr hf hfl' fun h4 held4 up4 => ?_
  refine fly_lands held4 fun h5 fl5 up5 => ?_
  exact k e cls B H2 rfl q hHe inv6 h5 (by rw [hstk]; exact fl5) (up4.trans up5)
/-- within a clause: an exception is being handled, none is let out -/
abbrev Cx.inClause (X : Cx) (pins : List (Addr × Obj)) (e : Addr) : Cx := { X with A := X.A.mark (some (.ref e)), calm := false, pn := X.pn ++ pins, xe := fun _ _ => False }
theorem Inv.inClause {pins : List (Addr × Obj)} {σ : St} {H : Hp} {s : Shared} (I : Inv X pins σ H s) (e : Addr) : Inv (X.inClause pins e) [] σ H s :=
  ⟨⟨I.ok.mod, I.ok.kind, I.ok.glob, I.ok.blt, I.ok.above, I.ok.inj, I.ok.has, I.ok.cab, fun h => (by cases h), I.ok.frames, I.ok.stk, I.ok.exf, I.ok.bs, I.ok.bsz, I.ok.noex, I.ok.exfs, I.ok.funs, I.ok.frf⟩, I.os, I.bare, I.base, I.loc, I.cell, I.free, I.freeC, fun p hp => I.pin p (by simpa using hp), I.hok, I.len⟩
theorem Inv.outClause {pins pins' : List (Addr × Obj)} {σ : St} {H : Hp} {s : Shared} {e : Addr} (ok : X.Ok) (I : Inv (X.inClause pins e) pins' σ H s) : Inv X pins σ H s :=
  ⟨ok, I.os, I.bare, I.base, I.loc, I.cell, I.free, I.freeC, fun p hp => I.pin p (List.mem_append_left _ hp), I.hok, I.len⟩
/-- a name of the frame is taken away -/
theorem Inv.unset {pins : List (Addr × Obj)} {σ : St} {H : Hp} {s : Shared} {M : Model} {A : Around} {E : Value → Shared → Prop} {n : Str} {j : Nat} {pos : Pos} {Q : Unit → Shared → Prop} (I : Inv X pins σ H s) (hN : X.N.Nodup) (hj : X.N[j]? = some n) (hl : X.env.kindOf n = some .local)
    (h : ∀ s', Inv X pins (σ.set j none) H s' → Q () s') : wpAny M A (do bindName X.env n .none; unbindBehindTheSuite X.env n pos) Q E s := by
  obtain ⟨m, hn, hm⟩ := id I.loc
  have hcls : (X.env.scope.kind == .class || (X.env.scope.kind == .module && X.env.locals != X.env.globals)) = false := by rw [I.ok.kind]; rfl
  refine wpAny_nameGoes_keeps hl hn hcls fun h' v hn' hs => h _ ?_
  have far : ∀ b o, X.s₀.heap.get? b = some o → b ≠ X.env.locals := fun b o e => Nat.ne_of_lt (Nat.lt_of_lt_of_le (Heap.lt_size e) I.ok.above)
  refine ⟨I.ok, I.os, I.bare, ⟨fun b o e nn hb hx => (hs.2 b (far b o e)).trans (I.base.keep b o e nn hb hx), fun b o e nn hb hx => ?_, I.base.free, fun b o e hx => ?_, I.base.tups, I.base.frzs, I.base.tbls⟩, ⟨_, hn', fun i y v' e1 e2 e3 => ?_⟩, fun y c e => ?_, I.free, I.freeC, fun p hp => ?_, ?_, by simpa using I.len⟩
  · obtain ⟨sl, e1⟩ := I.base.slot b o e nn hb hx
    exact ⟨sl, (hs.2 b (far b o e)).trans e1⟩
  · obtain ⟨o', e1⟩ := I.base.there b o e hx
    exact ⟨o', (hs.2 b (far b o e)).trans e1⟩
  · by_cases hij : i = j
    · subst hij
      rw [List.getElem?_set] at e2
      split at e2
      · split at e2 <;> cases e2
      · exact absurd rfl (by assumption)
    · rw [List.getElem?_set_ne (Ne.symm hij)] at e2
      obtain ⟨u', r', q⟩ := hm i y v' e1 e2 e3
      refine ⟨u', r', ?_⟩
      have hyn : y ≠ n := fun e => hij (nodup_ix hN e1 (e ▸ hj))
      rcases q with ⟨k, e⟩ | ⟨k, c, e, z⟩
      · exact .inl ⟨k, by simp [hyn, e]⟩
      · exact .inr ⟨k, c, e, z.sameBut hs (I.cne y c e)⟩
  · obtain ⟨w', z⟩ := I.cell y c e
    exact ⟨w', z.sameBut hs (I.cne y c e)⟩
  · obtain ⟨e, nn, ne, nf, d⟩ := I.pin p hp
    exact ⟨(hs.2 p.1 ne).trans e, nn, ne, nf, d⟩
  · exact HOk.tracked I.hok fun b u nn z => (hs.2 b fun e => nn (by rw [e]; exact I.free)).trans z
/-- try: body, except T as x: suite (the suite ends of itself) -/
def tTry (K : PySem.W.Frag) (TC : Addr) (j : Nat) (tb : (St → XK) → TS) (ts : TS) : TS := fun D σ H =>
  tb (fun σ' cls _ H' => PySem.W.exmOne K cls (.ref TC) = some true ∧ ∀ e, H' e = none → ts { nx := fun σ2 H2 => D.nx (σ2.set j none) H2, rt := fun _ _ => False } (σ'.set j (some (.ref e))) (upd H' e (.ext (ExcAt e cls)))) D σ H
theorem ps_try {T n : Str} {TC : Addr} {j : Nat} {body : List Stmt} {b0 : Stmt} {suite : List Stmt} {tb : (St → XK) → TS} {ts : TS} {np hpos pos : Pos} (hstk : X.stack = X.env :: X.outer) (hf : X.env.frame = some X.env.locals) (hex : X.ex = [])
    (hT : X.mg T = some (.ref TC)) (hgT : Gl X T) (hN : X.N.Nodup) (hj : X.N[j]? = some n) (hl : X.env.kindOf n = some .local) (hl2 : X.env.scope.names.lookup n = some .local)
    (hb : ∀ (pins : List (Addr × Obj)) (ξ : Value → Shared → Prop) (Ex : St → XK), PassS (X.inTry pins ξ) Ex → PSs (X.inTry pins ξ) body (tb Ex))
    (hs : ∀ (pins : List (Addr × Obj)) (e : Addr), PSs (X.inClause pins e) (b0 :: suite) ts) (hdb : (T == ("__debug__" : Str)) = false := by decide) :
    PS X (.Try body [.ExceptHandler (some (.Name T np)) (some n) (b0 :: suite) hpos] [] [] pos) (tTry X.K TC j tb ts) := by
  intro pins s σ H D I q
  refine wpAny_Try_except ?_
  have hp : PassS (X.inTry pins (fun v s1 => wpAny (model X.prog X.w) X.A (noteFrame v X.env) (fun _ s2 => wpAny (model X.prog X.w) X.A (setFlight v none) (fun _ s3 => wpAny (model X.prog X.w) X.A (handleBy v X.env [.ExceptHandler (some (.Name T np)) (some n) (b0 :: suite) hpos]) (SP X pins D) X.xe s3) X.xe s2) X.xe s1))
      (fun σ' cls _ H' => PySem.W.exmOne X.K cls (.ref TC) = some true ∧ ∀ e, H' e = none → ts { nx := fun σ2 H2 => D.nx (σ2.set j none) H2, rt := fun _ _ => False } (σ'.set j (some (.ref e))) (upd H' e (.ext (ExcAt e cls)))) := by
    intro pins' σ' H' s' v s2 I' hq
    refine comes hstk hf hex I'.outTry hq fun e cls B H2 hv hE hHe inv6 h3 fl3 up3 => ?_
    obtain ⟨hx, hk⟩ := hE
    have I3 := inv6 h3 fl3 up3
    have I3c := I3.inClause e
    refine wpAny_handleBy_cons (codeAny_handlers_test ?_) (by intro z; cases z)
    refine ld_glob (X := X.inClause pins e) I3c hgT hT ?_ hdb
    obtain ⟨oe, _, hoe, hoc, _⟩ := fl3.there
    have LT : PySem.W.Looks (model X.prog X.w) h3 (typeOf (.ref e)) cls := by
      rw [← hoc]
      exact (PySem.W.Looks.ld hoe).andThen .now
    refine PySem.W.exm_one I3.kIn LT hx _ _ _ _ (fun _ _ z => z) ?_
    refine codeAny_handlers_suite_as ?_
    refine fly_lands (s := { s2 with heap := h3 }) fl3 fun h6 fl6 up6 => ?_
    have I6 := inv6 h6 fl6 (up3.trans up6)
    have I6c := I6.inClause e
    refine store_ok (X := X.inClause pins e) (v := .ref e) I6c hN hj (.inl hl2) rfl (fun s7 I7 => ?_) (.inr hl2)
    refine wpAny_mono (hs pins e [] s7 _ _ _ I7 (hk e hHe)) (fun f s8 h8 => ?_) (fun _ _ z => False.elim z)
    cases f with
    | next =>
      obtain ⟨σ8, H8, I8, q8⟩ := h8
      exact Inv.unset (I8.outClause I6.ok) hN hj hl fun s9 I9 => ⟨_, _, I9, q8⟩
    | ret u => obtain ⟨_, _, _, _, _, z⟩ := h8; exact False.elim z
    | brk => obtain ⟨_, _, _, z⟩ := h8; exact False.elim z
    | cont => obtain ⟨_, _, _, z⟩ := h8; exact False.elim z
  have hbody := hb pins _ _ hp [] s σ H D (I.inTry _) q
  refine wpAny_mono hbody (fun f s1 h1 => ?_) (fun _ _ z => z)
  cases f with
  | next =>
    obtain ⟨σ1, H1, I1, q1⟩ := h1
    exact wpAny_execs_nil ⟨σ1, H1, I1.outTry, q1⟩
  | ret u => obtain ⟨v, σ1, H1, I1, r1, q1⟩ := h1; exact ⟨v, σ1, H1, I1.outTry, r1, q1⟩
  | brk => obtain ⟨σ1, H1, I1, q1⟩ := h1; exact ⟨σ1, H1, I1.outTry, q1⟩
  | cont => obtain ⟨σ1, H1, I1, q1⟩ := h1; exact ⟨σ1, H1, I1.outTry, q1⟩
end
end L2

set_option Elab.async false
set_option linter.all false
set_option maxRecDepth 100000
/-! Calls within an except clause: a def's promise that does not ask that nothing is being handled. -/
namespace L2
open PySem PySem.Spec PyProof.Rows
/-- room for a call, whatever is being handled -/
structure RoomN (k : Nat) (A : Around) : Prop where
  dp : A.depth + 3 * k + 5 < recursionLimit
  un : A.units + 16 * k + 200 < cLine
theorem RoomN.deeper {k : Nat} {A : Around} (r : RoomN (k + 1) A) (env : Env) : RoomN k (A.deeper env) :=
  ⟨by have := r.dp; show A.depth + 1 + 3 * k + 5 < _; omega, by have := r.un; show A.units + 3 + 16 * k + 200 < _; omega⟩
theorem Room.noted {k : Nat} {A : Around} (r : Room k A) (v : Option Value) : RoomN k (A.mark v) := ⟨r.dp, r.un⟩
structure FnOkN (P : Program) (w : World) (K : PySem.W.Frag) (mg : Str → Option Value) (base : Heap) (k : Nat) (f : Addr) (fd : FuncData) (ps : List Str) (sp : Sp) : Prop where
  len : ∀ vs H Q E, sp vs H Q E → vs.length = ps.length
  run : ∀ (A : Around) (outer : List Env) (s : Shared) (H : Hp) (args : Args) (us : List Value) (vs : List V) (Q : VK) (E : XK), RoomN k A → Env0 P w K mg base A outer s H → BindsTo s fd args (ps.zip us) → Vals vs us → sp vs H Q E →
    codeAny (model P w) A (.call (.ref f) args) (CR CX0 outer P w H s Q E) s
def CalleeN (P : Program) (w : World) (K : PySem.W.Frag) (mg : Str → Option Value) (base : Heap) (x : Str) (k : Nat) (sp : Sp) : Prop :=
  ∃ f fd ps, FnOkN P w K mg base k f fd ps sp ∧ mg x = some (.ref f) ∧ PySem.W.keepIn K (.ref f) = true ∧ Binds K fd ps []
/-- the context of such a def's body -/
abbrev cxN (P : Program) (w : World) (K : PySem.W.Frag) (mg : Str → Option Value) (base : Heap) (N : List Str) (qual : Str) (scope : Scope) (f : Addr) (cd : Value) (A : Around) (outer : List Env) (s : Shared) (H : Hp) (E : XK) : Cx :=
  { cxOf CX0 P w K mg base N qual scope f cd A outer s H E with calm := false, xe := fun _ _ => False }
section
variable {P : Program} {w : World} {K : PySem.W.Frag} {mg : Str → Option Value} {base : Heap}
theorem inv_startN {N ps : List Str} {qual : Str} {scope : Scope} {f : Addr} {cd : Value} {A : Around} {outer : List Env} {s s1 : Shared} {H : Hp} {E : XK} {us : List Value} {vs : List V} (S : FnScope N ps scope) (e0 : Env0 P w K mg base A outer s H) (hl : vs.length = ps.length) (r : Vals vs us)
    (x : InCallC s s.heap.objs.size (bindL (envOfC qual scope s.heap.objs.size f cd).kindOf (ps.zip us) fun _ => none) (cellsFrom (s.heap.objs.size + 1) scope.names []) (bindC (envOfC qual scope s.heap.objs.size f cd).kindOf (ps.zip us) fun _ => none) s1) :
    Inv (cxN P w K mg base N qual scope f cd A outer s H E) [] (start N vs) H s1 := by
  have I := inv_start (CX := CX0) (E := E) (A := { A with handled := none }) (qual := qual) (f := f) (cd := cd) S rfl ⟨e0.frames, e0.mod, e0.bs, e0.bsz, e0.funs, e0.frf, e0.hok, e0.bare⟩ hl r x
  exact ⟨⟨I.ok.mod, I.ok.kind, I.ok.glob, I.ok.blt, I.ok.above, I.ok.inj, I.ok.has, I.ok.cab, fun h => (by cases h), Around.frames_deeper e0.frames, I.ok.stk, I.ok.exf, I.ok.bs, I.ok.bsz, I.ok.noex, I.ok.exfs, I.ok.funs, I.ok.frf⟩,
    I.os, I.bare, I.base, I.loc, I.cell, I.free, I.freeC, I.pin, I.hok, I.len⟩
theorem Def.okN {x : Str} {st : Stmt} {N ps : List Str} {k : Nat} {sp : Sp} (D : Def K mg x st) (S : FnScope N ps (defScope st))
    (bd : ∀ (kV doc pm : Value) (an : Option Addr) (cdv ct : Value) (us : List Value), us.length = ps.length → bindArgs (PySem.W.fnOf x x (defArgs st) (defBody st) (defScope st) .none kV doc pm an cdv ct) ⟨us, []⟩ = pure (ps.zip us))
    (len : ∀ vs H Q E, sp vs H Q E → vs.length = ps.length)
    (hbody : ∀ (f : Addr) (cdv : Value) (A : Around) (outer : List Env) (s : Shared) (H : Hp) (vs : List V) (Q : VK) (E : XK), RoomN k (A.deeper (envOfC x (defScope st) s.heap.objs.size f cdv)) → sp vs H Q E →
      ∃ t, PSs (cxN P w K mg base N x (defScope st) f cdv A outer s H E) (defBody st) t ∧ t { nx := fun _ H' => Q .non H', rt := Q } (start N vs) H) : CalleeN P w K mg base x (k + 1) sp := by
  obtain ⟨f, fd, F, hm⟩ := D
  have Fk := F.kp
  have Fb := F.binds bd
  obtain ⟨oc, od, kV, doc, pm, an, cdv, ct, osl, rfl, lk, hcd⟩ := F.ex
  refine ⟨f, _, ps, ⟨len, fun A outer s H args us vs Q E hr e0 hb r hsp => ?_⟩, hm, Fk, Fb⟩
  have KX : K.In s.heap := e0.mod.kin.keeps fun b o e => (e0.bs b o e).1
  have lim : s.heap.NoLimit := e0.mod.nolimit.keeps fun b o e => (e0.bs b o e).1
  have hkind : ∀ y ∈ ps.zip us, (defScope st).names.lookup y.1 = some .local ∨ ((defScope st).names.lookup y.1 = some .cell ∧ ((cellsFrom (s.heap.objs.size + 1) (defScope st).names []).lookup y.1).isSome = true) := fun ⟨n, v⟩ hy => by
    rcases S.par n (List.of_mem_zip hy).1 with q | q
    · exact .inl q
    · exact .inr ⟨q, PySem.W.cellsFrom_some _ _ _ (.inl q)⟩
  refine codeAny_call_function (by have := hr.dp; omega) (KX _ _ lk) rfl S.co S.gen rfl (PySem.W.codeRec_of KX hcd) (hb _ _ _ _ ?_)
  refine wpAny_newFunctionEnv_cells S.kind hkind fun env he s1 x1 => ?_
  subst he
  refine ⟨lim.keeps x1.toInCall.keep, codeAny_func ?_⟩
  obtain ⟨t, ht, hq⟩ := hbody f cdv A outer s H vs Q E (hr.deeper _) hsp
  have I := inv_startN (E := E) S e0 (len _ _ _ _ hsp) r x1
  refine wpAny_mono (ht [] s1 (start N vs) H _ I hq) (fun fl s' hs => ?_) fun e s' hs => False.elim hs
  have fin : ∀ {σ' : St} {H' : Hp} {v : V} {u : Value}, Inv (cxN P w K mg base N x (defScope st) f cdv A outer s H E) [] σ' H' s' → RelV v u → Q v H' → CE outer P w H s Q u s' :=
    fun {σ' H' v u} J rv q => ⟨v, H', J.os, J.bare, J.base, J.hok, rv, q⟩
  cases fl with
  | ret u =>
    obtain ⟨v, σ', H', J, rv, q⟩ := hs
    exact fin J rv q
  | next =>
    obtain ⟨σ', H', J, q⟩ := hs
    exact fin (v := V.non) (u := Value.none) J rfl q
  | brk =>
    obtain ⟨_, _, _, q⟩ := hs
    exact False.elim q
  | cont =>
    obtain ⟨_, _, _, q⟩ := hs
    exact False.elim q
end
section
variable {X : Cx}
theorem pe_callC {x : Str} {k : Nat} {sp : Sp} {e : Expr} {es : List Expr} {t : TA} {p pos : Pos} (C : CalleeN X.prog X.w X.K X.mg X.base x k sp) (hr : RoomN k X.A) (hg : Gl X x) (ha : PA X (e :: es) t)
    (he : starEach (e :: es) X.env = (false, eval e X.env) :: starEach es X.env := by rfl) (hpl : (backTo pos (starEach es X.env)).any (·.1) = false := by rfl) (hdb : (x == ("__debug__" : Str)) = false := by decide) :
    PE X (.Call (.Name x p) (e :: es) [] pos) (tCall sp [] E0 t) := by
  obtain ⟨f, fd, ps, F, hm, hk, hb⟩ := C
  intro pins s σ H Q I h
  refine wpAny_Call_Name_kw (ld_glob I hg hm ?_ hdb)
  refine PySem.W.callWith_K (h₀ := X.base) I.ok.mod.kin hk (thn (ha pos pins s σ H _ I h) fun us s1 ⟨vs, H1, I1, r, q⟩ => ⟨I1.kIn, ?_⟩) he hpl
  have r2 : Vals (vs ++ []) (us ++ []) := r.append .nil
  have hl : (us ++ []).length = ps.length := by rw [← r2.length]; exact F.len _ _ _ _ q
  refine wpAny_call (codeAny_mono (F.run X.A X.stack s1 H1 ⟨us, []⟩ (us ++ []) (vs ++ []) Q E0 hr I1.env0 (hb s1 us I1.kIn hl) r2 q) fun r3 s' hq => ?_)
  cases r3 with
  | error v => exact False.elim hq
  | ok fl =>
    cases fl with
    | ret u => exact I1.after hq
    | next => exact False.elim hq
    | brk => exact False.elim hq
    | cont => exact False.elim hq
/-- a global thing of the module, as a value -/
theorem pe_globR {x : Str} {a : Addr} {pos : Pos} (hm : X.mg x = some (.ref a)) (hg : Gl X x) (hd : (x == ("__debug__" : Str)) = false := by decide) : PE X (.Name x pos) (tC (.ref a)) := fun pins s σ H Q I q =>
  ld_glob I hg hm ⟨.ref a, H, I, rfl, q⟩ hd
end
end L2

set_option Elab.async false
set_option linter.all false
set_option maxRecDepth 100000
/-! isinstance of an exception of an own class. -/
namespace L2
open PySem PySem.Spec PyProof.Rows
/-- what isinstance asks of an own class -/
structure IsiCls (K : PySem.W.Frag) (D : Addr) : Prop where
  ga : PySem.W.findIn K (.ref D) "__getattribute__" = some (some (.builtin "BaseException.__getattribute__"))
  gt : PySem.W.findIn K (.ref D) "__getattr__" = some none
  mb : PySem.W.mroIn K D (.type "BaseException") = some true
  hd : PySem.W.hasDictIn K D = true
  ca : PySem.W.findIn K (.ref D) "__class__" = some (some (.builtin "object.__class__"))
  sp : PySem.W.specialIn K (.builtin "object.__class__") "__get__" = some (some (.builtin "getset_descriptor.__get__"))
  tk : PySem.W.takesIn K (.builtin "object.__class__") = some true
  mr : PySem.W.mroIn K D (.type "object") = some true
theorem excAt_inst {h : Heap} {x D : Addr} (e : ExcAt x (.ref D) h) : ∃ ox, PySem.W.InstAt h x ox D none := by
  obtain ⟨o, vs, z, c, d, f⟩ := e
  refine ⟨o, z, c, ?_, ?_⟩
  · rcases o with ⟨c', d', dt, sl⟩
    dsimp only at f
    subst f
    rfl
  · rw [d]
    trivial
theorem exc_class_attr {K : PySem.W.Frag} {x D : Addr} {ox : Obj} {prog : Program} {w : World} {A : Around} {E : Value → Shared → Prop} {s : Shared} {Q : Option Value → Shared → Prop}
    (X : K.In s.heap) (I : PySem.W.InstAt s.heap x ox D none) (C : IsiCls K D) (h : Q (some (.ref D)) { s with toks := s.toks + 1 }) : wpAny (model prog w) A (getAttr? (.ref x) "__class__") Q E s := by
  have hf : PySem.W.findObj K D none "__class__" = some (.bind (.builtin "getset_descriptor.__get__") (.builtin "object.__class__")) := by
    obtain ⟨cd, hc, _⟩ := PySem.W.any_some C.hd
    unfold PySem.W.findObj
    rw [hc]
    simp only [Option.bind_some, C.ca, C.sp, C.tk]
  obtain ⟨hh, g, d, t, os⟩ := s
  have L0 := I.type (M := model prog w)
  have L1 := PySem.W.looks_findIn (M := model prog w) X C.ga
  have L2 := PySem.W.looks_findIn (M := model prog w) X C.gt
  have L3 := PySem.W.looks_mroIn (M := model prog w) X C.mb
  have L4 := PySem.W.looks_find (M := model prog w) X I hf
  have hk : builtinKind "BaseException.__getattribute__" = some .slot := by decide +kernel
  have hsplit : splitId "BaseException.__getattribute__" = some ("BaseException", "__getattribute__") := by decide +kernel
  unfold getAttr? getAttrBy? getAttrBy
  refine wpAny_bind (wpAny_mkText (wpAny_bind (wpAny_attempt (wpAny_holding (wpAny_bind (L0.at (wpAny_bind (L1.at ?_))))))))
  show wpAny _ _ (getAttrByItsOwn _ _ _ _ _ _) _ _ _
  unfold getAttrByItsOwn
  refine wpAny_bind (L2.at (wpAny_bind (wpAny_attempt (wpAny_holding ?_))))
  show wpAny _ _ (boundAndCalled _ _ _) _ _ _
  unfold boundAndCalled
  rw [PySem.F.attr_ValueError.ga.bind]
  refine wpAny_bind (wpAny_pure (wpAny_call (codeAny_call_builtin PySem.F.attr_ValueError.ga.plain PySem.F.entry_bexc_ga ?_)))
  have ha := PySem.F.args_bexc_ga (.ref x) (.str "__class__" t)
  simp only [checkBuiltinCall, hk, hsplit]
  refine wpAny_bind ?_
  unfold isInstance
  refine wpAny_bind (L0.at (L3.at ?_))
  repeat (first | with_reducible refine L4.at ?_ | with_reducible refine L0.at ?_ | wp_step)
  refine PySem.W.class_get (s := ⟨hh, g, d, t + 1, os⟩) (ox := ox) (od := none) X I C.mr ?_
  refine wpAny_pure ?_
  exact PySem.W.handed_on rfl (wpAny_pure h)
theorem kitx_exc {K : PySem.W.Frag} {x D : Addr} (C : IsiCls K D) : PySem.W.KitX K (.ref x) (.ref D) (ExcAt x (.ref D)) where
  ty := fun _ _ _ e => by
    obtain ⟨ox, I⟩ := excAt_inst e
    exact I.type
  it := fun _ _ kin _ => by
    obtain ⟨cd, hc, _⟩ := PySem.W.any_some C.hd
    unfold PySem.W.clsIn at hc
    split at hc
    case h_2 => cases hc
    case h_1 look =>
      intro A' Q' E' s' k q
      unfold isType loadHead
      exact wpAny_bind (wpAny_loadPart (k _ _ (kin _ _ look)) (wpAny_pure q))
  ne := fun h tp dd its n sl kin htp => by
    obtain ⟨cd, hc, _⟩ := PySem.W.any_some C.hd
    cases q : ((Value.ref D) == .ref tp) with
    | false => rfl
    | true =>
      have e : D = tp := Value.ref.inj (beq_iff_eq.mp q)
      unfold PySem.W.clsIn at hc
      split at hc
      case h_2 => cases hc
      case h_1 look =>
        rw [e] at look
        have z := kin _ _ look
        rw [htp] at z
        cases z
  ca := fun {prog w A E Q s} kin e k => by
    obtain ⟨ox, I⟩ := excAt_inst e
    exact exc_class_attr kin I C k
/-- isinstance(e, c): e an exception of an own class -/
def rIsiX (K : PySem.W.Frag) : List V → Hp → VK → Prop := fun xs H Q => ∃ (e D : Addr) (x : V) (c : Value) (b : Bool), xs = [.ref e, x] ∧ (∀ u, RelV x u → u = c) ∧ H e = some (.ext (ExcAt e (.ref D))) ∧ IsiCls K D ∧ PySem.W.kitOne K (.ref D) c = some b ∧ Q (.bl b) H
theorem call_isinstanceX {X : Cx} (K : PySem.W.Frag) (hK : X.K = K := by rfl) : CallR X (.builtin "isinstance") (rIsiX K) := by
  subst hK
  intro pins s σ H xs us Q I r h
  obtain ⟨e, D, x, c, b, rfl, hc, he, C, hk, q⟩ := h
  obtain ⟨u, c', rfl, rx, rc⟩ := vals2 r
  cases (show u = Value.ref e from rx)
  cases hc c' rc
  have he' : ObjOk X.prog X.w H s.heap e (.ext (ExcAt e (.ref D))) := I.hok e _ he
  exact PySem.W.kia_one (kitx_exc C) I.kIn he'.1 hk (fun z => nomatch z) fun tk => ⟨.bl b, H, I.tok tk, rfl, q⟩
end L2

set_option Elab.async false
set_option linter.all false
set_option maxRecDepth 100000
namespace L2
open PySem PySem.Spec PyProof.Rows

/-! ### zip of three lists: the iterators at n, n+1, n+2, their tuple at n+3, the kept tuple at n+4, the zip at n+5 -/
abbrev IsTrip (h : Heap) (T : Addr) (a b c : Value) : Prop := h.get? T = some { cls := .type "tuple", data := .seq #[a, b, c] }
section
variable {prog : Program} {w : World} {A : Around} {E : Value → Shared → Prop} {s : Shared}
local macro_rules | `(tactic| walk_at "ne") => `(tactic| (show @Ne Nat _ _; omega))
end
end L2
namespace L2
open PySem PySem.Spec PyProof.Rows
local macro_rules | `(tactic| walk_at "ne") => `(tactic| (show @Ne Nat _ _; omega))
section
variable {prog : Program} {w : World} {A : Around} {E : Value → Shared → Prop} {s : Shared}
end

/-! ### the call zip(a, b, c) -/
abbrev z3H1 (h : Heap) (l1 : Addr) : Heap := h.push { cls := .type "list_iterator", data := .fields #[.ref l1, .int 0 0] }
abbrev z3H2 (h : Heap) (l1 l2 : Addr) : Heap := (z3H1 h l1).push { cls := .type "list_iterator", data := .fields #[.ref l2, .int 0 0] }
abbrev z3H3 (h : Heap) (l1 l2 l3 : Addr) : Heap := (z3H2 h l1 l2).push { cls := .type "list_iterator", data := .fields #[.ref l3, .int 0 0] }
abbrev z3H4 (h : Heap) (l1 l2 l3 : Addr) : Heap := (z3H3 h l1 l2 l3).push { cls := .type "tuple", data := .seq #[.ref h.objs.size, .ref (z3H1 h l1).objs.size, .ref (z3H2 h l1 l2).objs.size] }
abbrev z3H5 (h : Heap) (l1 l2 l3 : Addr) : Heap := (z3H4 h l1 l2 l3).push { cls := .type "tuple", data := .seq #[.none, .none, .none] }
abbrev z3H6 (h : Heap) (l1 l2 l3 : Addr) : Heap := (z3H5 h l1 l2 l3).push { cls := .type "zip", data := .fields #[.none, .bool false, .bool false, .ref (z3H3 h l1 l2 l3).objs.size, .ref (z3H4 h l1 l2 l3).objs.size] }
section
variable {prog : Program} {w : World} {A : Around} {E : Value → Shared → Prop} {s : Shared}
end
def It3 (K : PySem.W.Frag) (a b c : Addr) : It :=
  ⟨fun i H => ∃ xs ys zs x y q, SqL K H a xs ∧ SqL K H b ys ∧ SqL K H c zs ∧ xs[i]? = some x ∧ ys[i]? = some y ∧ zs[i]? = some q,
   fun i H v H' => ∃ T x y q, v = .ref T ∧ H T = none ∧ H' = upd H T (.tup [x, y, q]) ∧ (∀ xs, SqL K H a xs → xs[i]? = some x) ∧ (∀ ys, SqL K H b ys → ys[i]? = some y) ∧ ∀ zs, SqL K H c zs → zs[i]? = some q,
   fun i H => ∃ xs ys zs, SqL K H a xs ∧ SqL K H b ys ∧ SqL K H c zs ∧ (xs.length ≤ i ∨ ys.length ≤ i ∨ zs.length ≤ i)⟩
def Zip3St (n a b c : Nat) (i : Nat) (h : Heap) : Prop := IsZip h (n + 5) (n + 3) (n + 4) .none ∧ IsTrip h (n + 3) (.ref n) (.ref (n + 1)) (.ref (n + 2)) ∧ (∃ u v w, IsTrip h (n + 4) u v w) ∧ h.IsListIter n a i ∧ h.IsListIter (n + 1) b i ∧ h.IsListIter (n + 2) c i
def iZip3 (K : PySem.W.Frag) (ta : TA) : TI := fun σ H R => ta σ H fun vs H1 => ∃ a b c, vs = [.ref a, .ref b, .ref c] ∧ (∃ xs, SqL K H1 a xs) ∧ (∃ ys, SqL K H1 b ys) ∧ (∃ zs, SqL K H1 c zs) ∧ R (It3 K a b c) H1
section
variable {X : Cx} {elts : List Expr} {kk : Nat} {tp : Pos}
end
section
variable {K : PySem.W.Frag} {g : TG} {ti : TT} {te : TE} {σc : St} {H : Hp} {Q : VK}
end
end L2

set_option Elab.async false
set_option linter.all false
set_option maxRecDepth 100000
/-! Tuples: comprehensions over one, tuple(list), what isinstance says of one. -/
namespace L2
open PySem PySem.Spec PyProof.Rows
section
variable {K : PySem.W.Frag} {g : TG} {ti : TT} {te : TE} {σc : St} {H : Hp} {Q : VK}
end
def rTupOf (K : PySem.W.Frag) : List V → Hp → VK → Prop := fun xs H Q => ∃ p ys, xs = [.ref p] ∧ ((SqL K H p ys ∧ ∀ l, H l = none → Q (.ref l) (upd H l (.tup ys))) ∨ (SqT K H p ys ∧ Q (.ref p) H))
section
variable {K : PySem.W.Frag} {H : Hp} {Q : VK}
theorem isi_tt : PySem.W.kitOne K (.type "tuple") (.type "tuple") = some true := by kernel_rfl
theorem isi_lt : PySem.W.kitOne K (.type "list") (.type "tuple") = some false := by kernel_rfl
theorem i_isiTT {a : Addr} {xs : List V} (h : H a = some (.tup xs)) (q : Q (.bl true) H) : rIsi K [.ref a, .ty "tuple"] H Q := ⟨_, _, _, true, rfl, .tup h, isi_tt, q⟩
theorem i_isiLT {a : Addr} {xs : List V} (h : H a = some (.lst xs)) (q : Q (.bl false) H) : rIsi K [.ref a, .ty "tuple"] H Q := ⟨_, _, _, false, rfl, .lst h, isi_lt, q⟩
end
end L2

set_option Elab.async false
set_option linter.all false
set_option maxRecDepth 100000
/-! xs[::-1], xs.index(i), xs.insert(i, x) -/
namespace L2
open PySem PySem.Spec PyProof.Rows
section
variable {X : Cx} {e k : Expr} {te : TE} {tk : TO} {pos p2 : Pos}
def rRev (K : PySem.W.Frag) : V → Hp → VK → Prop := fun x H Q => ∃ a xs, x = .ref a ∧ SqL K H a xs ∧ ∀ p, H p = none → Q (.ref p) (upd H p (.lst xs.reverse))
def tRev (K : PySem.W.Frag) (te : TE) (tk : TO) : TE := fun σ H Q => te σ H fun x H1 => tk σ H1 fun j H2 => j = some (-1) ∧ rRev K x H2 Q
theorem pe_rev (he : PE X e te) (hk : PO X (some k) tk) : PE X (.Subscript e (.Slice none none (some k) p2) pos) (tRev X.K te tk) := by
  intro pins s σ H Q I h
  refine Subscript_ (thn (he pins s σ H _ I h) fun v s1 ⟨x, H1, I1, r1, q1⟩ => ?_)
  refine wpAny_Slice ?_
  rw [evalPart_none]
  refine wpAny_pure ?_
  refine wpAny_pure ?_
  refine thn (hk pins s1 σ H1 _ I1 q1) fun vs s3 ⟨j, H3, I3, ps, q3⟩ => ?_
  obtain ⟨rfl, a, xs, rfl, hx, q⟩ := q3
  cases r1
  have I4 : Inv X pins σ H3 { s3 with heap := s3.heap.push { cls := .type "slice", data := .fields #[.none, .none, vs] } } := I3.kept (t' := s3.toks) fun b ob q => Heap.get?_push_of_some _ q
  show wpAny (model X.prog X.w) X.A (subscriptTail e (.Slice none none (some k) p2) (.ref a) (.ref s3.heap.objs.size)) (EP X pins σ Q) X.xe { s3 with heap := s3.heap.push { cls := .type "slice", data := .fields #[.none, .none, vs] } }
  obtain ⟨its, r, ht, hz⟩ := I4.list hx
  have hlen := r.length
  refine tail_any (ops := [.ref a, .ref s3.heap.objs.size]) ht.isList.typeIs slot_list_getitem.lookup ?_ (by with_unfolding_all rfl)
  refine wpAny_getItem_list_slice ht.isList (Heap.IsSliceOf.new ..) .none .none ps (by simp) ?_ (by rw [List.size_toArray] <;> omega)
  rw [PySem.W.krv_pick]
  refine ⟨.ref _, _, I4.laid (t' := s3.toks) (o := .lst xs.reverse) (fun b ob q => Heap.get?_push_of_some _ q) (Nat.le_refl _) ?_, rfl, q _ (I4.hok.fresh (Nat.le_refl _))⟩
  exact ⟨by rw [List.length_reverse]; exact hz, _, 0, r.reverse, Heap.get?_push_size _ rfl⟩
theorem pe_revK (K : PySem.W.Frag) (he : PE X e te) (hk : PO X (some k) tk) (hK : X.K = K := by rfl) : PE X (.Subscript e (.Slice none none (some k) p2) pos) (tRev K te tk) := by subst hK; exact pe_rev he hk
end
section
variable {X : Cx}
def rIndex : V → List V → Hp → VK → Prop := fun x vs H Q => ∃ l ns k, x = .ref l ∧ vs = [.int k] ∧ H l = some (.lst (iL ns)) ∧ k ∈ ns ∧ Q (.int (ns.idxOf k : Nat)) H
def rInsert : V → List V → Hp → VK → Prop := fun x vs H Q => ∃ l xs y, x = .ref l ∧ vs = [.int 0, y] ∧ H l = some (.lst xs) ∧ xs.length < sizeLine ∧ Q .non (upd H l (.lst (y :: xs)))
end
section
variable {K : PySem.W.Frag} {H : Hp} {Q : VK}
theorem i_rev {a : Addr} {ns : List Int} (h : SqL K H a (iL ns)) (q : ∀ p, H p = none → Q (.ref p) (upd H p (.lst (iL ns.reverse)))) : some (-1 : Int) = some (-1) ∧ rRev K (.ref a) H Q := ⟨rfl, a, _, rfl, h, fun p hp => by rw [← List.map_reverse]; exact q p hp⟩
end
end L2

set_option Elab.async false
set_option linter.all false
set_option maxRecDepth 100000
/-! (a, b, ..) = a list of that length -/
namespace L2
open PySem PySem.Spec PyProof.Rows
section
variable {prog : Program} {w : World} {A : Around} {E : Value → Shared → Prop} {s : Shared}
theorem isList_ext {h h' : Heap} {l b : Addr} {items : Array Value} (x : h.IsList l items) (e : Heap.ExtBut b h h') (n : l ≠ b) : h'.IsList l items := by
  obtain ⟨o, ho, r⟩ := x
  exact ⟨o, e l o n ho, r⟩
theorem draw_list {it t : Addr} {items : Array Value} (hne : t ≠ it) : ∀ (n i : Nat) (s : Shared) (Q : List Value → Shared → Prop), s.heap.IsListIter it t i → s.heap.IsList t items → i + n ≤ items.size →
    (∀ h', h'.IsListIter it t (i + n) → Heap.SameBut it s.heap h' → Q ((items.toList.drop i).take n) { s with heap := h' }) → wpAny (model prog w) A (draw (.ref it) n) Q E s
  | 0, i, s, Q, hit, _, _, hQ => by
    show wpAny _ _ (pure []) Q E s
    exact wpAny_pure (by simpa using hQ s.heap hit (Heap.SameBut.refl ..))
  | n + 1, i, s, Q, hit, ht, hle, hQ => by
    have hlt : i < items.size := by omega
    show wpAny _ _ (pyNext (.ref it) >>= _) Q E s
    refine wpAny_bind (wpAny_pyNext_list_item hit ht (x := items[i]) (by simp [hlt]) fun h₁ hit₁ hs₁ => ?_)
    refine wpAny_bind (wpAny_holding (draw_list hne n (i + 1) _ _ hit₁ (isList_ext ht hs₁.extBut hne) (by omega) fun h₂ hit₂ hs₂ => wpAny_pure ?_))
    have hd : items.toList.drop i = items[i] :: items.toList.drop (i + 1) := by simp [List.drop_eq_getElem_cons, hlt]
    have := hQ h₂ (by rw [show i + (n + 1) = i + 1 + n by omega]; exact hit₂) (hs₁.trans hs₂)
    rw [hd, List.take_succ_cons] at this
    exact this
end
section
variable {X : Cx} {pos : Pos}
def gLst (K : PySem.W.Frag) (n : Nat) (t : TGs) : TG := fun v σ H Q => ∃ a xs, v = .ref a ∧ SqL K H a xs ∧ xs.length = n ∧ t xs σ H Q
end
end L2

set_option Elab.async false
set_option linter.all false
set_option maxRecDepth 100000
/-! (a, .., *rest) = a list -/
namespace L2
open PySem PySem.Spec PyProof.Rows
section
variable {prog : Program} {w : World} {A : Around} {E : Value → Shared → Prop} {s : Shared}
theorem unpackItems_star {t : Addr} {items : Array Value} {i : Nat} {Q : List Value → Shared → Prop} (hh : A.handled = none) (ht : s.heap.IsList t items) (hi : i ≤ items.size) (hz : items.size ≤ sizeLine)
    (hQ : ∀ h' tk, Heap.ExtBut s.heap.objs.size s.heap h' → Q (items.toList.take i ++ [.ref h'.objs.size]) { s with heap := h'.push { cls := .type "list", data := .seq (items.toList.drop i).toArray }, toks := tk }) :
    wpAny (model prog w) A (unpackItems (.ref t) (i + 1) (some i)) Q E s := by
  have hlt : t ≠ s.heap.objs.size := by obtain ⟨o, ho, _⟩ := ht; exact Nat.ne_of_lt (Heap.lt_size ho)
  have push : ∀ o, (s.heap.push o).IsList t items := fun o => by
    obtain ⟨ob, ho, r⟩ := ht
    exact ⟨ob, Heap.get?_push_of_some _ ho, r⟩
  unfold unpackItems
  refine wpAny_bind ?_
  unfold notIterableAtAll
  refine wpAny_bind (wpAny_specialOf ht.typeIs slot_list_iter.lookup ?_)
  refine wpAny_pure ?_
  simp only [Bool.false_eq_true, if_false]
  refine wpAny_bind (wpAny_holding (wpAny_pyIter_list ht ?_))
  refine wpAny_bind (wpAny_holding (draw_list hlt i 0 _ _ ⟨_, Heap.get?_push_size _ rfl, rfl, rfl⟩ (push _) (by omega) fun h₁ hit₁ hs₁ => ?_))
  have ht₁ : h₁.IsList t items := isList_ext (push _) hs₁.extBut hlt
  rw [Nat.zero_add] at hit₁
  obtain ⟨oi, hoi, _⟩ := id hit₁
  obtain ⟨ol, hol, _⟩ := id ht₁
  rw [List.drop_zero]
  have hfl : (items.toList.take i).length = i := by rw [List.length_take, Array.length_toList]; omega
  rw [if_neg (show ¬ ((items.toList.take i).length < i) by rw [hfl]; omega)]
  refine wpAny_bind (wpAny_holding (PySem.W.kun_collect (s := { s with heap := h₁ }) (T := "list_iterator") (.inr (.inr (.inl rfl))) (Walks.list (A := A.in1) hh s.heap.objs.size t hlt items) (fun j u st => st.1.typeIs) (k := i) (by omega) ⟨hit₁, ht₁⟩ (Heap.lt_size hoi) (Heap.lt_size hol) (fun h₂ tk hk => ?_) hz))
  have hrl : (items.toList.drop i).length = items.size - i := by rw [List.length_drop, Array.length_toList]
  show wpAny _ _ (if (items.toList.drop i).length < i + 1 - 1 - i then _ else _) _ _ _
  rw [if_neg (by omega)]
  show wpAny _ _ (newList ((items.toList.drop i).take ((items.toList.drop i).length - (i + 1 - 1 - i))) >>= fun d => pure (items.toList.take i ++ [d] ++ (items.toList.drop i).drop ((items.toList.drop i).length - (i + 1 - 1 - i)))) _ _ _
  have e0 : i + 1 - 1 - i = 0 := by omega
  rw [e0, Nat.sub_zero, List.take_length, List.drop_length]
  have he : Heap.ExtBut s.heap.objs.size s.heap h₂ := fun b o hb e => hk b o hb (hs₁.extBut b o hb (Heap.get?_push_of_some _ e))
  refine wpAny_bind (wpAny_newList (s := { s with heap := h₂, toks := tk }) (wpAny_pure ?_) (by rw [hrl]; omega))
  rw [List.append_nil]
  exact hQ h₂ tk he
theorem assign_Tuple_star {env : Env} {elts : List Expr} {x1} {pos : Pos} {t : Addr} {items : Array Value} {i : Nat} {Q : Unit → Shared → Prop} (hh : A.handled = none) (ht : s.heap.IsList t items) (hi : i ≤ items.size) (hz : items.size ≤ sizeLine)
    (hn : (assignEach elts env).length = i + 1) (hstar : (assignEach elts env).findIdx? (·.1) = some i)
    (h : ∀ h' tk, Heap.ExtBut s.heap.objs.size s.heap h' → wpAny (model prog w) A (assignInOrder ((assignEach elts env).map (·.2)) (items.toList.take i ++ [.ref h'.objs.size])) Q E { s with heap := h'.push { cls := .type "list", data := .seq (items.toList.drop i).toArray }, toks := tk }) :
    wpAny (model prog w) A (assign (.Tuple elts x1 pos) env (.ref t)) Q E s := by
  rw [assign_Tuple]
  refine wpAny_bind (wpAny_standAt ?_)
  unfold unpack
  rw [hn, hstar]
  exact wpAny_bind (wpAny_holding (unpackItems_star hh ht hi hz h))
end
section
variable {X : Cx} {pos : Pos}
/-- the last target takes what is left, as a new list -/
def gStar (K : PySem.W.Frag) (n : Nat) (t : TGs) : TG := fun v σ H Q => ∃ a xs, v = .ref a ∧ SqL K H a xs ∧ n ≤ xs.length ∧ ∀ p, H p = none → t (xs.take n ++ [.ref p]) σ (upd H p (.lst (xs.drop n))) Q
theorem pg_star {es : List Expr} {k : Nat} {t : TGs} {n : Nat} (hc : X.calm = true) (h : PGs X es t)
    (hn : (assignEach es X.env).length = n + 1 := by rfl) (hst : (assignEach es X.env).findIdx? (·.1) = some n := by rfl) : PG X (.Tuple es k pos) (gStar X.K n t) := by
  intro pins s σ H v u Q I r hw
  obtain ⟨a, xs, e1, hq, hl, hw⟩ := hw
  subst e1
  cases r
  obtain ⟨its, rv, ht, hz⟩ := I.list hq
  have hlen : its.length = xs.length := rv.length.symm
  refine assign_Tuple_star (I.ok.hd hc) ht.isList (by rw [List.size_toArray]; omega) (by rw [List.size_toArray]; omega) hn hst fun h' tk hx => ?_
  have I1 : Inv X pins σ H { s with heap := h', toks := tk } := I.kept (t' := tk) fun b o e => hx b o (Nat.ne_of_lt (Heap.lt_size e)) e
  have I2 := I1.laid (t' := tk) (o := .lst (xs.drop n)) (h' := h'.push { cls := .type "list", data := .seq (its.drop n).toArray }) (fun b ob q => Heap.get?_push_of_some _ q) (Nat.le_refl _) ?_
  · exact h pins _ σ _ _ _ Q I2 (by simpa using (rv.take n).append (.cons (show RelV (.ref h'.objs.size) (.ref h'.objs.size) from rfl) .nil)) (hw _ (I1.hok.fresh (Nat.le_refl _)))
  · exact ⟨by rw [List.length_drop]; omega, _, 0, rv.drop n, Heap.get?_push_size _ rfl⟩
theorem pg_starK (K : PySem.W.Frag) {es : List Expr} {k : Nat} {t : TGs} (n : Nat) (h : PGs X es t) (hc : X.calm = true := by rfl) (hn : (assignEach es X.env).length = n + 1 := by rfl) (hst : (assignEach es X.env).findIdx? (·.1) = some n := by rfl) (hK : X.K = K := by rfl) : PG X (.Tuple es k pos) (gStar K n t) := by
  subst hK; exact pg_star hc h hn hst
theorem pgs_star {e : Expr} {es : List Expr} {t : TG} {u : TGs} {p : Pos} (h1 : PG X e t) (h2 : PGs X es u) : PGs X (.Starred e p :: es) (gCons t u) := by
  intro pins s σ H vs us Q I r h
  obtain ⟨v, vr, e1, h⟩ := h
  subst e1
  cases r with
  | cons r rr =>
    show wpAny _ _ (assignInOrder (assign e X.env :: (assignEach es X.env).map (·.2)) _) _ _ s
    refine assignInOrder_cons (thn (h1 pins s σ H _ _ _ I r h) fun _ s1 ⟨σ1, H1, I1, q1⟩ => ?_)
    exact h2 pins s1 σ1 H1 _ _ Q I1 rr q1
end
end L2

set_option Elab.async false
set_option linter.all false
namespace M
/-! ### wheels: plain mathematics -/
def drag (p a x : Int) : Int := if x < a - p then a - p else if a + p < x then a + p else x
def isTr (ps : List Int) : Prop := 1 ≤ ps.length ∧ ps.length ≤ 12 ∧ ∀ p ∈ ps, 0 ≤ p
def keeps : List Int → Int → List Int → Prop
  | p :: ps, a, x :: xs => (x - a ≤ p ∧ a - x ≤ p) ∧ keeps ps x xs
  | _, _, _ => True
def stand (ps : List Int) (a : Int) (xs : List Int) : Prop := xs.length = ps.length ∧ keeps ps a xs
def dragAll : List Int → List Int → Int → List Int
  | p :: ps, x :: xs, a => drag p a x :: dragAll ps xs (drag p a x)
  | _, _, _ => []
def lastOf : Int → List Int → Int
  | a, [] => a
  | _, x :: xs => lastOf x xs
theorem dropc {α : Type} {xs : List α} {i : Nat} {x : α} (h : xs[i]? = some x) : xs.drop i = x :: xs.drop (i + 1) := by
  obtain ⟨hl, e⟩ := List.getElem?_eq_some_iff.mp h
  rw [List.drop_eq_getElem_cons hl, e]
theorem lastOf_snoc (a x : Int) : ∀ xs : List Int, lastOf a (xs ++ [x]) = x := by
  intro xs
  induction xs generalizing a with
  | nil => rfl
  | cons y ys ih => exact ih y
theorem keeps_snoc {p x : Int} : ∀ (ps xs : List Int) (a : Int), ps.length = xs.length → keeps ps a xs → x - lastOf a xs ≤ p → lastOf a xs - x ≤ p → keeps (ps ++ [p]) a (xs ++ [x])
  | [], [], a, _, _, h1, h2 => ⟨⟨h1, h2⟩, trivial⟩
  | q :: ps, y :: ys, a, hl, h, h1, h2 => ⟨h.1, keeps_snoc ps ys y (by simpa using hl) h.2 h1 h2⟩
  | [], _ :: _, _, hl, _, _, _ => by simp at hl
  | _ :: _, [], _, hl, _, _, _ => by simp at hl
theorem dragAll_length : ∀ (ps xs : List Int) (a : Int), (dragAll ps xs a).length = min ps.length xs.length
  | [], xs, a => by simp [dragAll]
  | p :: ps, [], a => by simp [dragAll]
  | p :: ps, x :: xs, a => by simp [dragAll, dragAll_length ps xs]
theorem dragAll_nil (xs : List Int) (a : Int) : dragAll [] xs a = [] := by simp [dragAll]
theorem dragAll_nil2 (ps : List Int) (a : Int) : dragAll ps [] a = [] := by cases ps <;> simp [dragAll]
theorem sum_nonneg : ∀ {ps : List Int}, (∀ p ∈ ps, 0 ≤ p) → 0 ≤ ps.sum
  | [], _ => by simp
  | p :: ps, h => by
    have h1 := h p List.mem_cons_self
    have h2 := sum_nonneg (ps := ps) fun q hq => h q (List.mem_cons_of_mem _ hq)
    simp only [List.sum_cons]; omega

/-! ### rows; wheels by themselves -/
def runs (ps : List Int) : List Int → List Int → List (List Int)
  | _, [] => []
  | ws, c :: row => dragAll ps ws c :: runs ps (dragAll ps ws c) row
def hung (d : Int) : Int → List Int → List Int
  | _, [] => []
  | x, c :: row => drag d c x :: hung d (drag d c x) row
def alone : Int → List Int → List Int → Int → List Int
  | d, p :: ps, x :: xs, a => drag (d + p) a x :: alone (d + p) ps xs a
  | _, _, _, _ => []
def depths : Int → List Int → List Int
  | _, [] => []
  | d, p :: ps => (d + p) :: depths (d + p) ps
/-! ### rows cut, rows filled -/
def endW (ps : List Int) : List Int → List Int → List Int
  | ws, [] => ws
  | ws, c :: row => endW ps (dragAll ps ws c) row
/-- places on the way, in order -/
def Path (a c : Int) : List Int → Prop
  | [] => True
  | s :: ss => ((a ≤ s ∧ s ≤ c) ∨ (c ≤ s ∧ s ≤ a)) ∧ Path s c ss
/-- a row, filled; the marks tell where the row's own places stand -/
def FillOk (a : Int) (row : List Int) (i : Nat) (fs ms : List Int) : Prop := ∀ ps ws : List Int, (∀ p ∈ ps, 0 ≤ p) → keeps ps a ws →
  endW ps ws fs = endW ps ws (row.take i) ∧ ∀ k : Nat, k < i → ∃ m : Nat, ms[k]? = some (m : Int) ∧ m < fs.length ∧ (runs ps ws fs)[m]? = (runs ps ws row)[k]?
def apps : Nat → List (List Int) → List (List Int)
  | _, [] => []
  | k, x :: xs => (x ++ [(k : Int)]) :: apps (k + 1) xs
theorem take_snoc_get {α : Type} {xs : List α} {j : Nat} {x : α} (h : xs[j]? = some x) : xs.take (j + 1) = xs.take j ++ [x] := by
  rw [List.take_add_one, h]; rfl
end M

set_option Elab.async false
set_option linter.all false
namespace M
/-! ### a piece grabbed: those on both sides are dragged -/
def gAll (ps L : List Int) (m : Nat) (c : Int) : List Int := (dragAll (ps.take m).reverse (L.take m).reverse c).reverse ++ c :: dragAll (ps.drop m) (L.drop (m + 1)) c
theorem dragAll_rec : ∀ (ps xs : List Int) (a : Int) (i : Nat) (p x y : Int), ps[i]? = some p → xs[i]? = some x → (a :: dragAll ps xs a)[i]? = some y → (dragAll ps xs a)[i]? = some (drag p y x)
  | p0 :: ps, x0 :: xs, a, 0, p, x, y, hp, hx, hy => by
    simp at hp hx hy
    subst hp hx hy
    simp [dragAll]
  | p0 :: ps, x0 :: xs, a, i + 1, p, x, y, hp, hx, hy => by
    simp only [dragAll, List.getElem?_cons_succ] at hp hx hy ⊢
    exact dragAll_rec ps xs _ i p x y hp hx hy
  | [], _, a, i, p, x, y, hp, _, _ => by simp at hp
  | _ :: _, [], a, i, p, x, y, _, hx, _ => by simp at hx
section
variable {ps L : List Int} {m : Nat} {c : Int}
theorem gA_len (hl : L.length = ps.length + 1) (hm : m ≤ ps.length) : (dragAll (ps.take m).reverse (L.take m).reverse c).reverse.length = m := by
  simp only [List.length_reverse, dragAll_length, List.length_take]
  omega
theorem gB_len (hl : L.length = ps.length + 1) (hm : m ≤ ps.length) : (dragAll (ps.drop m) (L.drop (m + 1)) c).length = ps.length - m := by
  rw [dragAll_length, List.length_drop, List.length_drop]
  omega
theorem gAll_len (hl : L.length = ps.length + 1) (hm : m ≤ ps.length) : (gAll ps L m c).length = L.length := by
  unfold gAll
  rw [List.length_append, gA_len hl hm, List.length_cons, gB_len hl hm]
  omega
theorem gAll_at (hl : L.length = ps.length + 1) (hm : m ≤ ps.length) : (gAll ps L m c)[m]? = some c := by
  unfold gAll
  rw [List.getElem?_append_right (by rw [gA_len hl hm]; omega), gA_len hl hm, Nat.sub_self]
  rfl
theorem gAll_up (hl : L.length = ps.length + 1) (hm : m ≤ ps.length) {k : Nat} (hk : m < k) {p x y : Int} (hp : ps[k - 1]? = some p) (hx : L[k]? = some x) (hy : (gAll ps L m c)[k - 1]? = some y) : (gAll ps L m c)[k]? = some (drag p y x) := by
  have hlen := gA_len (c := c) hl hm
  unfold gAll at hy ⊢
  rw [List.getElem?_append_right (by rw [hlen]; omega), hlen] at hy ⊢
  obtain ⟨i, rfl⟩ : ∃ i, k = m + 1 + i := ⟨k - (m + 1), by omega⟩
  rw [show m + 1 + i - m = i + 1 by omega, List.getElem?_cons_succ]
  rw [show m + 1 + i - 1 - m = i by omega] at hy
  refine dragAll_rec _ _ _ i p x y ?_ ?_ hy
  · rw [List.getElem?_drop, ← hp]
    congr 1
    omega
  · rw [List.getElem?_drop, ← hx]
theorem gAll_down (hl : L.length = ps.length + 1) (hm : m ≤ ps.length) {k : Nat} (hk : k < m) {p x y : Int} (hp : ps[k]? = some p) (hx : L[k]? = some x) (hy : (gAll ps L m c)[k + 1]? = some y) : (gAll ps L m c)[k]? = some (drag p y x) := by
  have hlen := gA_len (c := c) hl hm
  have hD : (dragAll (ps.take m).reverse (L.take m).reverse c).length = m := by rw [← List.length_reverse]; exact hlen
  have hP : (ps.take m).reverse[m - 1 - k]? = some p := by
    rw [List.getElem?_reverse (by rw [List.length_take]; omega), List.length_take, Nat.min_eq_left hm, List.getElem?_take, if_pos (by omega), ← hp]
    congr 1
    omega
  have hX : (L.take m).reverse[m - 1 - k]? = some x := by
    rw [List.getElem?_reverse (by rw [List.length_take]; omega), List.length_take, Nat.min_eq_left (by omega), List.getElem?_take, if_pos (by omega), ← hx]
    congr 1
    omega
  have hget : ∀ j, j < m → (gAll ps L m c)[j]? = (dragAll (ps.take m).reverse (L.take m).reverse c)[m - 1 - j]? := fun j hj => by
    unfold gAll
    rw [List.getElem?_append_left (by rw [hlen]; exact hj), List.getElem?_reverse (by rw [hD]; exact hj), hD]
  rw [hget k hk]
  refine dragAll_rec _ _ _ (m - 1 - k) p x y hP hX ?_
  by_cases e : k + 1 = m
  · rw [e, gAll_at hl hm] at hy
    rw [show m - 1 - k = 0 by omega]
    exact hy
  · rw [hget (k + 1) (by omega)] at hy
    rw [show m - 1 - k = (m - 1 - (k + 1)) + 1 by omega, List.getElem?_cons_succ]
    exact hy
end
theorem keeps_of : ∀ {ps xs : List Int} {a : Int}, (∀ (k : Nat) (p x y : Int), ps[k]? = some p → (a :: xs)[k]? = some y → xs[k]? = some x → x - y ≤ p ∧ y - x ≤ p) → keeps ps a xs
  | p :: ps, x :: xs, a, h => by
    refine ⟨h 0 p x a rfl rfl rfl, keeps_of fun k q z y h1 h2 h3 => ?_⟩
    exact h (k + 1) q z y (by simpa using h1) (by simpa using h2) (by simpa using h3)
  | [], _, _, _ => by simp [keeps]
  | _ :: _, [], _, _ => by simp [keeps]
theorem drag_near {p a x : Int} (h : 0 ≤ p) : drag p a x - a ≤ p ∧ a - drag p a x ≤ p := by unfold drag; omega
theorem gAll_stand {ps L : List Int} {m : Nat} {c hd : Int} {tl : List Int} (hl : L.length = ps.length + 1) (hm : m ≤ ps.length) (hp : ∀ p ∈ ps, 0 ≤ p) (e : gAll ps L m c = hd :: tl) : stand ps hd tl := by
  have hlen := gAll_len (c := c) hl hm
  rw [e] at hlen
  refine ⟨by simp at hlen; omega, keeps_of fun k p x y h1 h2 h3 => ?_⟩
  have hp0 := hp p (List.mem_of_getElem? h1)
  have hk : k < ps.length := (List.getElem?_eq_some_iff.mp h1).1
  have g1 : (gAll ps L m c)[k + 1]? = some x := by rw [e, List.getElem?_cons_succ]; exact h3
  have g0 : (gAll ps L m c)[k]? = some y := by rw [e]; exact h2
  by_cases q : k < m
  · have hx : L[k]? = some (L[k]'(by omega)) := List.getElem?_eq_getElem _
    have := gAll_down (c := c) hl hm q h1 hx g1
    rw [g0] at this
    have e2 := Option.some.inj this
    have := drag_near (a := x) (x := L[k]'(by omega)) hp0
    rw [← e2] at this
    omega
  · have hx : L[k + 1]? = some (L[k + 1]'(by omega)) := List.getElem?_eq_getElem _
    have := gAll_up (c := c) hl hm (k := k + 1) (by omega) (p := p) (y := y) (by simpa using h1) hx (by simpa using g0)
    rw [g1] at this
    have e2 := Option.some.inj this
    have := drag_near (a := y) (x := L[k + 1]'(by omega)) hp0
    rw [← e2] at this
    omega
/-- the stands behind each grab -/
def gRun (ps : List Int) : List Int → List (Int × Int) → List (List Int)
  | _, [] => []
  | L, g :: r => gAll ps L (g.1 + 1).toNat g.2 :: gRun ps (gAll ps L (g.1 + 1).toNat g.2) r
def gEnd (ps : List Int) : List Int → List (Int × Int) → List Int
  | L, [] => L
  | L, g :: r => gEnd ps (gAll ps L (g.1 + 1).toNat g.2) r
theorem gEnd_app (ps : List Int) : ∀ (r1 r2 : List (Int × Int)) (L : List Int), gEnd ps L (r1 ++ r2) = gEnd ps (gEnd ps L r1) r2
  | [], _, _ => rfl
  | g :: r1, r2, L => by simp only [List.cons_append, gEnd, gEnd_app ps r1 r2]
theorem gRun_app (ps : List Int) : ∀ (r1 r2 : List (Int × Int)) (L : List Int), gRun ps L (r1 ++ r2) = gRun ps L r1 ++ gRun ps (gEnd ps L r1) r2
  | [], _, _ => rfl
  | g :: r1, r2, L => by simp only [List.cons_append, gRun, gEnd, gRun_app ps r1 r2]
theorem gRun_len (ps : List Int) : ∀ (r : List (Int × Int)) (L : List Int), (gRun ps L r).length = r.length
  | [], _ => rfl
  | g :: r, L => by simp only [gRun, List.length_cons, gRun_len ps r]
theorem gEnd_len {ps : List Int} : ∀ {r : List (Int × Int)} {L : List Int}, L.length = ps.length + 1 → (∀ g ∈ r, -1 ≤ g.1 ∧ g.1 < ps.length) → (gEnd ps L r).length = ps.length + 1
  | [], L, h, _ => h
  | g :: r, L, h, hv => by
    have := hv g List.mem_cons_self
    exact gEnd_len (r := r) (L := gAll ps L (g.1 + 1).toNat g.2) (by rw [gAll_len h (by omega)]; exact h) fun x hx => hv x (List.mem_cons_of_mem _ hx)
end M

set_option Elab.async false
set_option linter.all false
set_option maxRecDepth 100000
set_option maxHeartbeats 4000000
namespace My
open PySem L2 M
local macro_rules | `(tactic| walk_at "s1") => `(tactic| first
  | with_reducible refine i_var rfl ?_
  | with_reducible refine i_I0 ?_
  | with_reducible refine iteF ?_
  | with_reducible refine iteNT ?_
  | with_reducible refine iteNF ?_
  | with_reducible refine iteT ?_
  | with_reducible refine i_truB ?_
  | with_reducible refine i_addI ?_
  | with_reducible refine i_U ?_
  | with_reducible refine i_isB ?_
  | with_reducible refine i_isNotB ?_
  | with_reducible refine i_eqI ?_
  | with_reducible refine i_neI ?_
  | with_reducible refine i_intB ?_
  | with_reducible refine i_abs ?_
  | with_reducible refine i_isiII ?_
  | with_reducible refine i_isiIB ?_
  | with_reducible refine i_isiIL ?_
  | with_reducible refine i_isiID ?_
  | with_reducible refine i_isiIT ?_
  | with_reducible refine i_isiBB ?_
  | with_reducible refine i_div (by omega) (by omega) ?_
  | with_reducible refine i_mod (by omega) ?_
  | with_reducible refine And.intro (szl (Nat.le_of_ble_eq_true rfl)) ?_
  | with_reducible refine ⟨_, rfl, ?_⟩)
local macro_rules | `(tactic| walk_at "un") => `(tactic| try dsimp only [tSeq, tAsg, gName, tOp, tUn, tTest, tB, tAnd, tOr, tNot, tAndV, tOrV, tNotV, tIf, tIfS, tRet, tRetN, tDrop, tNext, tCons, tNil, tCB, tCall, tMenu, tComp, iZip2, iEnum, tNoIf, tTru, tJoin, cxOf_K, tLst, tTup, tSl, tPart, tNoPart, tBM, tBM0, tChain, tC, tFor_eq, gTup, gStar, gLst, gCons, gNil, gSub, iList, iRng1, iRng2, iRng3, iTup, iZip3, tWhile, tRev, tRaise, tCallS, tTry, tAug, tPar, tNever, ipI, List.append_nil])
local macro_rules | `(tactic| walk_at "st") => `(tactic| (walk_at "un"; repeat walk_at "s1"))

def top (i : Nat) : Stmt := PySem.Challenge.pw_lugtrain_k36_grabs_by_hand.main.body.getD i (.Pass ⟨0, 0, 0, 0⟩)
abbrev s_is_train : Stmt := top 16
theorem sc_is_train : FnScope ["plays"] ["plays"] (defScope s_is_train) := ⟨rfl, rfl, rfl, by decide +kernel, rfl, by decide +kernel, by decide +kernel⟩
theorem bd_is_train (kV doc pm : Value) (an : Option Addr) (cdv ct : Value) (us : List Value) (hl : us.length = (["plays"] : List Str).length) : bindArgs (PySem.W.fnOf "is_train" "is_train" (defArgs s_is_train) (defBody s_is_train) (defScope s_is_train) .none kV doc pm an cdv ct) ⟨us, []⟩ = pure ((["plays"] : List Str).zip us) := match us, hl with | [_], _ => rfl
abbrev s_refuse_no_train : Stmt := top 17
theorem sc_refuse_no_train : FnScope ["plays"] ["plays"] (defScope s_refuse_no_train) := ⟨rfl, rfl, rfl, by decide +kernel, rfl, by decide +kernel, by decide +kernel⟩
theorem bd_refuse_no_train (kV doc pm : Value) (an : Option Addr) (cdv ct : Value) (us : List Value) (hl : us.length = (["plays"] : List Str).length) : bindArgs (PySem.W.fnOf "refuse_no_train" "refuse_no_train" (defArgs s_refuse_no_train) (defBody s_refuse_no_train) (defScope s_refuse_no_train) .none kV doc pm an cdv ct) ⟨us, []⟩ = pure ((["plays"] : List Str).zip us) := match us, hl with | [_], _ => rfl
abbrev s_keeps_plays : Stmt := top 18
theorem sc_keeps_plays : FnScope ["plays", "handle", "wheels", "ahead", "play", "at"] ["plays", "handle", "wheels"] (defScope s_keeps_plays) := ⟨rfl, rfl, rfl, by decide +kernel, rfl, by decide +kernel, by decide +kernel⟩
theorem bd_keeps_plays (kV doc pm : Value) (an : Option Addr) (cdv ct : Value) (us : List Value) (hl : us.length = (["plays", "handle", "wheels"] : List Str).length) : bindArgs (PySem.W.fnOf "keeps_plays" "keeps_plays" (defArgs s_keeps_plays) (defBody s_keeps_plays) (defScope s_keeps_plays) .none kV doc pm an cdv ct) ⟨us, []⟩ = pure ((["plays", "handle", "wheels"] : List Str).zip us) := match us, hl with | [_, _, _], _ => rfl
abbrev s_is_stand : Stmt := top 19
theorem sc_is_stand : FnScope ["plays", "handle", "wheels"] ["plays", "handle", "wheels"] (defScope s_is_stand) := ⟨rfl, rfl, rfl, by decide +kernel, rfl, by decide +kernel, by decide +kernel⟩
theorem bd_is_stand (kV doc pm : Value) (an : Option Addr) (cdv ct : Value) (us : List Value) (hl : us.length = (["plays", "handle", "wheels"] : List Str).length) : bindArgs (PySem.W.fnOf "is_stand" "is_stand" (defArgs s_is_stand) (defBody s_is_stand) (defScope s_is_stand) .none kV doc pm an cdv ct) ⟨us, []⟩ = pure ((["plays", "handle", "wheels"] : List Str).zip us) := match us, hl with | [_, _, _], _ => rfl
abbrev s_refuse_no_stand : Stmt := top 20
theorem sc_refuse_no_stand : FnScope ["plays", "handle", "wheels"] ["plays", "handle", "wheels"] (defScope s_refuse_no_stand) := ⟨rfl, rfl, rfl, by decide +kernel, rfl, by decide +kernel, by decide +kernel⟩
theorem bd_refuse_no_stand (kV doc pm : Value) (an : Option Addr) (cdv ct : Value) (us : List Value) (hl : us.length = (["plays", "handle", "wheels"] : List Str).length) : bindArgs (PySem.W.fnOf "refuse_no_stand" "refuse_no_stand" (defArgs s_refuse_no_stand) (defBody s_refuse_no_stand) (defScope s_refuse_no_stand) .none kV doc pm an cdv ct) ⟨us, []⟩ = pure ((["plays", "handle", "wheels"] : List Str).zip us) := match us, hl with | [_, _, _], _ => rfl
abbrev s_dragged : Stmt := top 21
theorem sc_dragged : FnScope ["play", "ahead", "at"] ["play", "ahead", "at"] (defScope s_dragged) := ⟨rfl, rfl, rfl, by decide +kernel, rfl, by decide +kernel, by decide +kernel⟩
theorem bd_dragged (kV doc pm : Value) (an : Option Addr) (cdv ct : Value) (us : List Value) (hl : us.length = (["play", "ahead", "at"] : List Str).length) : bindArgs (PySem.W.fnOf "dragged" "dragged" (defArgs s_dragged) (defBody s_dragged) (defScope s_dragged) .none kV doc pm an cdv ct) ⟨us, []⟩ = pure ((["play", "ahead", "at"] : List Str).zip us) := match us, hl with | [_, _, _], _ => rfl
abbrev s_all_dragged : Stmt := top 22
theorem sc_all_dragged : FnScope ["plays", "wheels", "place", "places", "ahead", "play", "at"] ["plays", "wheels", "place"] (defScope s_all_dragged) := ⟨rfl, rfl, rfl, by decide +kernel, rfl, by decide +kernel, by decide +kernel⟩
theorem bd_all_dragged (kV doc pm : Value) (an : Option Addr) (cdv ct : Value) (us : List Value) (hl : us.length = (["plays", "wheels", "place"] : List Str).length) : bindArgs (PySem.W.fnOf "all_dragged" "all_dragged" (defArgs s_all_dragged) (defBody s_all_dragged) (defScope s_all_dragged) .none kV doc pm an cdv ct) ⟨us, []⟩ = pure ((["plays", "wheels", "place"] : List Str).zip us) := match us, hl with | [_, _, _], _ => rfl
abbrev s_refuse_no_piece : Stmt := top 24
theorem sc_refuse_no_piece : FnScope ["plays", "piece"] ["plays", "piece"] (defScope s_refuse_no_piece) := ⟨rfl, rfl, rfl, by decide +kernel, rfl, by decide +kernel, by decide +kernel⟩
theorem bd_refuse_no_piece (kV doc pm : Value) (an : Option Addr) (cdv ct : Value) (us : List Value) (hl : us.length = (["plays", "piece"] : List Str).length) : bindArgs (PySem.W.fnOf "refuse_no_piece" "refuse_no_piece" (defArgs s_refuse_no_piece) (defBody s_refuse_no_piece) (defScope s_refuse_no_piece) .none kV doc pm an cdv ct) ⟨us, []⟩ = pure ((["plays", "piece"] : List Str).zip us) := match us, hl with | [_, _], _ => rfl
abbrev s_moved : Stmt := top 25
theorem sc_moved : FnScope ["plays", "handle", "wheels", "piece", "place", "pieces", "many", "ahead", "behind", "end", "places"] ["plays", "handle", "wheels", "piece", "place"] (defScope s_moved) := ⟨rfl, rfl, rfl, by decide +kernel, rfl, by decide +kernel, by decide +kernel⟩
theorem bd_moved (kV doc pm : Value) (an : Option Addr) (cdv ct : Value) (us : List Value) (hl : us.length = (["plays", "handle", "wheels", "piece", "place"] : List Str).length) : bindArgs (PySem.W.fnOf "moved" "moved" (defArgs s_moved) (defBody s_moved) (defScope s_moved) .none kV doc pm an cdv ct) ⟨us, []⟩ = pure ((["plays", "handle", "wheels", "piece", "place"] : List Str).zip us) := match us, hl with | [_, _, _, _, _], _ => rfl
abbrev s_grabbed : Stmt := top 26
theorem sc_grabbed : FnScope ["plays", "handle", "wheels", "piece", "place"] ["plays", "handle", "wheels", "piece", "place"] (defScope s_grabbed) := ⟨rfl, rfl, rfl, by decide +kernel, rfl, by decide +kernel, by decide +kernel⟩
theorem bd_grabbed (kV doc pm : Value) (an : Option Addr) (cdv ct : Value) (us : List Value) (hl : us.length = (["plays", "handle", "wheels", "piece", "place"] : List Str).length) : bindArgs (PySem.W.fnOf "grabbed" "grabbed" (defArgs s_grabbed) (defBody s_grabbed) (defScope s_grabbed) .none kV doc pm an cdv ct) ⟨us, []⟩ = pure ((["plays", "handle", "wheels", "piece", "place"] : List Str).zip us) := match us, hl with | [_, _, _, _, _], _ => rfl
abbrev s_grabs_of : Stmt := top 27
theorem sc_grabs_of : FnScope ["plays", "handle", "wheels", "row", "piece", "place", "stands"] ["plays", "handle", "wheels", "row"] (defScope s_grabs_of) := ⟨rfl, rfl, rfl, by decide +kernel, rfl, by decide +kernel, by decide +kernel⟩
theorem bd_grabs_of (kV doc pm : Value) (an : Option Addr) (cdv ct : Value) (us : List Value) (hl : us.length = (["plays", "handle", "wheels", "row"] : List Str).length) : bindArgs (PySem.W.fnOf "grabs_of" "grabs_of" (defArgs s_grabs_of) (defBody s_grabs_of) (defScope s_grabs_of) .none kV doc pm an cdv ct) ⟨us, []⟩ = pure ((["plays", "handle", "wheels", "row"] : List Str).zip us) := match us, hl with | [_, _, _, _], _ => rfl
abbrev s_law_cell_at : Stmt := top 29
theorem sc_law_cell_at : FnScope ["script", "k"] ["script", "k"] (defScope s_law_cell_at) := ⟨rfl, rfl, rfl, by decide +kernel, rfl, by decide +kernel, by decide +kernel⟩
theorem bd_law_cell_at (kV doc pm : Value) (an : Option Addr) (cdv ct : Value) (us : List Value) (hl : us.length = (["script", "k"] : List Str).length) : bindArgs (PySem.W.fnOf "_law_cell_at" "_law_cell_at" (defArgs s_law_cell_at) (defBody s_law_cell_at) (defScope s_law_cell_at) .none kV doc pm an cdv ct) ⟨us, []⟩ = pure ((["script", "k"] : List Str).zip us) := match us, hl with | [_, _], _ => rfl
abbrev s_law_draws : Stmt := top 30
theorem sc_law_draws : FnScope ["cell", "many", "base", "found", "rest", "stirred", "k"] ["cell", "many", "base"] (defScope s_law_draws) := ⟨rfl, rfl, rfl, by decide +kernel, rfl, by decide +kernel, by decide +kernel⟩
theorem bd_law_draws (kV doc pm : Value) (an : Option Addr) (cdv ct : Value) (us : List Value) (hl : us.length = (["cell", "many", "base"] : List Str).length) : bindArgs (PySem.W.fnOf "_law_draws" "_law_draws" (defArgs s_law_draws) (defBody s_law_draws) (defScope s_law_draws) .none kV doc pm an cdv ct) ⟨us, []⟩ = pure ((["cell", "many", "base"] : List Str).zip us) := match us, hl with | [_, _, _], _ => rfl
abbrev s_law_whole : Stmt := top 31
theorem sc_law_whole : FnScope ["found"] ["found"] (defScope s_law_whole) := ⟨rfl, rfl, rfl, by decide +kernel, rfl, by decide +kernel, by decide +kernel⟩
theorem bd_law_whole (kV doc pm : Value) (an : Option Addr) (cdv ct : Value) (us : List Value) (hl : us.length = (["found"] : List Str).length) : bindArgs (PySem.W.fnOf "_law_whole" "_law_whole" (defArgs s_law_whole) (defBody s_law_whole) (defScope s_law_whole) .none kV doc pm an cdv ct) ⟨us, []⟩ = pure ((["found"] : List Str).zip us) := match us, hl with | [_], _ => rfl
abbrev s_law_train : Stmt := top 32
theorem sc_law_train : FnScope ["script", "heads", "many", "far", "picks", "plays", "wheels", "handle", "ahead", "k", "play", "side"] ["script"] (defScope s_law_train) := ⟨rfl, rfl, rfl, by decide +kernel, rfl, by decide +kernel, by decide +kernel⟩
theorem bd_law_train (kV doc pm : Value) (an : Option Addr) (cdv ct : Value) (us : List Value) (hl : us.length = (["script"] : List Str).length) : bindArgs (PySem.W.fnOf "_law_train" "_law_train" (defArgs s_law_train) (defBody s_law_train) (defScope s_law_train) .none kV doc pm an cdv ct) ⟨us, []⟩ = pure ((["script"] : List Str).zip us) := match us, hl with | [_], _ => rfl
abbrev s_law_a_kin : Stmt := top 34
theorem sc_law_a_kin : FnScope ["e", "kin"] ["e"] (defScope s_law_a_kin) := ⟨rfl, rfl, rfl, by decide +kernel, rfl, by decide +kernel, by decide +kernel⟩
theorem bd_law_a_kin (kV doc pm : Value) (an : Option Addr) (cdv ct : Value) (us : List Value) (hl : us.length = (["e"] : List Str).length) : bindArgs (PySem.W.fnOf "_law_a_kin" "_law_a_kin" (defArgs s_law_a_kin) (defBody s_law_a_kin) (defScope s_law_a_kin) .none kV doc pm an cdv ct) ⟨us, []⟩ = pure ((["e"] : List Str).zip us) := match us, hl with | [_], _ => rfl
abbrev s_law_due_kin : Stmt := top 35
theorem sc_law_due_kin : FnScope ["name", "names"] ["name"] (defScope s_law_due_kin) := ⟨rfl, rfl, rfl, by decide +kernel, rfl, by decide +kernel, by decide +kernel⟩
theorem bd_law_due_kin (kV doc pm : Value) (an : Option Addr) (cdv ct : Value) (us : List Value) (hl : us.length = (["name"] : List Str).length) : bindArgs (PySem.W.fnOf "_law_due_kin" "_law_due_kin" (defArgs s_law_due_kin) (defBody s_law_due_kin) (defScope s_law_due_kin) .none kV doc pm an cdv ct) ⟨us, []⟩ = pure ((["name"] : List Str).zip us) := match us, hl with | [_], _ => rfl
abbrev s_law_dragged : Stmt := top 36
theorem sc_law_dragged : FnScope ["play", "ahead", "at"] ["play", "ahead", "at"] (defScope s_law_dragged) := ⟨rfl, rfl, rfl, by decide +kernel, rfl, by decide +kernel, by decide +kernel⟩
theorem bd_law_dragged (kV doc pm : Value) (an : Option Addr) (cdv ct : Value) (us : List Value) (hl : us.length = (["play", "ahead", "at"] : List Str).length) : bindArgs (PySem.W.fnOf "_law_dragged" "_law_dragged" (defArgs s_law_dragged) (defBody s_law_dragged) (defScope s_law_dragged) .none kV doc pm an cdv ct) ⟨us, []⟩ = pure ((["play", "ahead", "at"] : List Str).zip us) := match us, hl with | [_, _, _], _ => rfl
abbrev s_law_a_behind : Stmt := top 37
theorem sc_law_a_behind : FnScope ["plays", "handle", "wheels", "piece", "place", "lies", "at", "found", "k"] ["plays", "handle", "wheels", "piece", "place"] (defScope s_law_a_behind) := ⟨rfl, rfl, rfl, by decide +kernel, rfl, by decide +kernel, by decide +kernel⟩
theorem bd_law_a_behind (kV doc pm : Value) (an : Option Addr) (cdv ct : Value) (us : List Value) (hl : us.length = (["plays", "handle", "wheels", "piece", "place"] : List Str).length) : bindArgs (PySem.W.fnOf "_law_a_behind" "_law_a_behind" (defArgs s_law_a_behind) (defBody s_law_a_behind) (defScope s_law_a_behind) .none kV doc pm an cdv ct) ⟨us, []⟩ = pure ((["plays", "handle", "wheels", "piece", "place"] : List Str).zip us) := match us, hl with | [_, _, _, _, _], _ => rfl
abbrev s_law_told : Stmt := top 38
theorem sc_law_told : FnScope ["plays", "handle", "wheels", "row", "found", "kin", "e"] ["plays", "handle", "wheels", "row"] (defScope s_law_told) := ⟨rfl, rfl, rfl, by decide +kernel, rfl, by decide +kernel, by decide +kernel⟩
theorem bd_law_told (kV doc pm : Value) (an : Option Addr) (cdv ct : Value) (us : List Value) (hl : us.length = (["plays", "handle", "wheels", "row"] : List Str).length) : bindArgs (PySem.W.fnOf "_law_told" "_law_told" (defArgs s_law_told) (defBody s_law_told) (defScope s_law_told) .none kV doc pm an cdv ct) ⟨us, []⟩ = pure ((["plays", "handle", "wheels", "row"] : List Str).zip us) := match us, hl with | [_, _, _, _], _ => rfl
abbrev s_law : Stmt := top 39
theorem sc_law : FnScope ["script", "plays", "handle", "wheels", "many", "span", "row", "due", "here", "cell", "picks", "piece", "place", "far", "handed", "found", "kin", "behind", "odd", "at", "thing"] ["script"] (defScope s_law) := ⟨rfl, rfl, rfl, by decide +kernel, rfl, by decide +kernel, by decide +kernel⟩
structure Txt (mg : Str → Option Value) : Prop where
  z_ValueError : mg "ValueError" = none
  z_abs : mg "abs" = none
  z_bool : mg "bool" = none
  z_int : mg "int" = none
  z_isinstance : mg "isinstance" = none
  z_len : mg "len" = none
  z_list : mg "list" = none
  z_max : mg "max" = none
  z_min : mg "min" = none
  z_range : mg "range" = none
  z_sum : mg "sum" = none
  z_tuple : mg "tuple" = none
  z_zip : mg "zip" = none
  g_MOST_PLAYS : ∃ t, mg "MOST_PLAYS" = some (.int 12 t)
structure Cls (K : PySem.W.Frag) (mg : Str → Option Value) where
  c_TrainError : Addr
  c_NoTrain : Addr
  c_NoStand : Addr
  c_NoPaper : Addr
  c_NoBox : Addr
  c_NoSwitch : Addr
  c_NoPlace : Addr
  c_NoTable : Addr
  c_NoText : Addr
  c_NoRow : Addr
  c_NoPiece : Addr
  c_NothingLeft : Addr
  c_TooMany : Addr
  m_TrainError : mg "TrainError" = some (.ref c_TrainError)
  m_NoTrain : mg "NoTrain" = some (.ref c_NoTrain)
  m_NoStand : mg "NoStand" = some (.ref c_NoStand)
  m_NoPaper : mg "NoPaper" = some (.ref c_NoPaper)
  m_NoBox : mg "NoBox" = some (.ref c_NoBox)
  m_NoSwitch : mg "NoSwitch" = some (.ref c_NoSwitch)
  m_NoPlace : mg "NoPlace" = some (.ref c_NoPlace)
  m_NoTable : mg "NoTable" = some (.ref c_NoTable)
  m_NoText : mg "NoText" = some (.ref c_NoText)
  m_NoRow : mg "NoRow" = some (.ref c_NoRow)
  m_NoPiece : mg "NoPiece" = some (.ref c_NoPiece)
  m_NothingLeft : mg "NothingLeft" = some (.ref c_NothingLeft)
  m_TooMany : mg "TooMany" = some (.ref c_TooMany)
  x_NoTrain : PySem.W.excIn K c_NoTrain [.type "ValueError", .type "Exception", .type "BaseException", .type "object"] "ValueError.__new__" = true
  e_NoTrain : PySem.W.exmOne K (.ref c_NoTrain) (.ref c_TrainError) = some true
  i_NoTrain_ga : PySem.W.findIn K (.ref c_NoTrain) "__getattribute__" = some (some (.builtin "BaseException.__getattribute__"))
  i_NoTrain_gt : PySem.W.findIn K (.ref c_NoTrain) "__getattr__" = some none
  i_NoTrain_mb : PySem.W.mroIn K c_NoTrain (.type "BaseException") = some true
  i_NoTrain_hd : PySem.W.hasDictIn K c_NoTrain = true
  i_NoTrain_ca : PySem.W.findIn K (.ref c_NoTrain) "__class__" = some (some (.builtin "object.__class__"))
  i_NoTrain_sp : PySem.W.specialIn K (.builtin "object.__class__") "__get__" = some (some (.builtin "getset_descriptor.__get__"))
  i_NoTrain_tk : PySem.W.takesIn K (.builtin "object.__class__") = some true
  i_NoTrain_mr : PySem.W.mroIn K c_NoTrain (.type "object") = some true
  k_NoTrain_NoTrain : PySem.W.kitOne K (.ref c_NoTrain) (.ref c_NoTrain) = some true
  k_NoTrain_NoStand : PySem.W.kitOne K (.ref c_NoTrain) (.ref c_NoStand) = some false
  k_NoTrain_NoPaper : PySem.W.kitOne K (.ref c_NoTrain) (.ref c_NoPaper) = some false
  k_NoTrain_NoBox : PySem.W.kitOne K (.ref c_NoTrain) (.ref c_NoBox) = some false
  k_NoTrain_NoSwitch : PySem.W.kitOne K (.ref c_NoTrain) (.ref c_NoSwitch) = some false
  k_NoTrain_NoPlace : PySem.W.kitOne K (.ref c_NoTrain) (.ref c_NoPlace) = some false
  k_NoTrain_NoTable : PySem.W.kitOne K (.ref c_NoTrain) (.ref c_NoTable) = some false
  k_NoTrain_NoText : PySem.W.kitOne K (.ref c_NoTrain) (.ref c_NoText) = some false
  k_NoTrain_NoRow : PySem.W.kitOne K (.ref c_NoTrain) (.ref c_NoRow) = some false
  k_NoTrain_NoPiece : PySem.W.kitOne K (.ref c_NoTrain) (.ref c_NoPiece) = some false
  k_NoTrain_NothingLeft : PySem.W.kitOne K (.ref c_NoTrain) (.ref c_NothingLeft) = some false
  k_NoTrain_TooMany : PySem.W.kitOne K (.ref c_NoTrain) (.ref c_TooMany) = some false
  k_NoTrain_ValueError : PySem.W.kitOne K (.ref c_NoTrain) (.type "ValueError") = some true
  x_NoStand : PySem.W.excIn K c_NoStand [.type "ValueError", .type "Exception", .type "BaseException", .type "object"] "ValueError.__new__" = true
  e_NoStand : PySem.W.exmOne K (.ref c_NoStand) (.ref c_TrainError) = some true
  i_NoStand_ga : PySem.W.findIn K (.ref c_NoStand) "__getattribute__" = some (some (.builtin "BaseException.__getattribute__"))
  i_NoStand_gt : PySem.W.findIn K (.ref c_NoStand) "__getattr__" = some none
  i_NoStand_mb : PySem.W.mroIn K c_NoStand (.type "BaseException") = some true
  i_NoStand_hd : PySem.W.hasDictIn K c_NoStand = true
  i_NoStand_ca : PySem.W.findIn K (.ref c_NoStand) "__class__" = some (some (.builtin "object.__class__"))
  i_NoStand_sp : PySem.W.specialIn K (.builtin "object.__class__") "__get__" = some (some (.builtin "getset_descriptor.__get__"))
  i_NoStand_tk : PySem.W.takesIn K (.builtin "object.__class__") = some true
  i_NoStand_mr : PySem.W.mroIn K c_NoStand (.type "object") = some true
  k_NoStand_NoTrain : PySem.W.kitOne K (.ref c_NoStand) (.ref c_NoTrain) = some false
  k_NoStand_NoStand : PySem.W.kitOne K (.ref c_NoStand) (.ref c_NoStand) = some true
  k_NoStand_NoPaper : PySem.W.kitOne K (.ref c_NoStand) (.ref c_NoPaper) = some false
  k_NoStand_NoBox : PySem.W.kitOne K (.ref c_NoStand) (.ref c_NoBox) = some false
  k_NoStand_NoSwitch : PySem.W.kitOne K (.ref c_NoStand) (.ref c_NoSwitch) = some false
  k_NoStand_NoPlace : PySem.W.kitOne K (.ref c_NoStand) (.ref c_NoPlace) = some false
  k_NoStand_NoTable : PySem.W.kitOne K (.ref c_NoStand) (.ref c_NoTable) = some false
  k_NoStand_NoText : PySem.W.kitOne K (.ref c_NoStand) (.ref c_NoText) = some false
  k_NoStand_NoRow : PySem.W.kitOne K (.ref c_NoStand) (.ref c_NoRow) = some false
  k_NoStand_NoPiece : PySem.W.kitOne K (.ref c_NoStand) (.ref c_NoPiece) = some false
  k_NoStand_NothingLeft : PySem.W.kitOne K (.ref c_NoStand) (.ref c_NothingLeft) = some false
  k_NoStand_TooMany : PySem.W.kitOne K (.ref c_NoStand) (.ref c_TooMany) = some false
  k_NoStand_ValueError : PySem.W.kitOne K (.ref c_NoStand) (.type "ValueError") = some true
  x_NoPiece : PySem.W.excIn K c_NoPiece [.type "ValueError", .type "Exception", .type "BaseException", .type "object"] "ValueError.__new__" = true
  e_NoPiece : PySem.W.exmOne K (.ref c_NoPiece) (.ref c_TrainError) = some true
  i_NoPiece_ga : PySem.W.findIn K (.ref c_NoPiece) "__getattribute__" = some (some (.builtin "BaseException.__getattribute__"))
  i_NoPiece_gt : PySem.W.findIn K (.ref c_NoPiece) "__getattr__" = some none
  i_NoPiece_mb : PySem.W.mroIn K c_NoPiece (.type "BaseException") = some true
  i_NoPiece_hd : PySem.W.hasDictIn K c_NoPiece = true
  i_NoPiece_ca : PySem.W.findIn K (.ref c_NoPiece) "__class__" = some (some (.builtin "object.__class__"))
  i_NoPiece_sp : PySem.W.specialIn K (.builtin "object.__class__") "__get__" = some (some (.builtin "getset_descriptor.__get__"))
  i_NoPiece_tk : PySem.W.takesIn K (.builtin "object.__class__") = some true
  i_NoPiece_mr : PySem.W.mroIn K c_NoPiece (.type "object") = some true
  k_NoPiece_NoTrain : PySem.W.kitOne K (.ref c_NoPiece) (.ref c_NoTrain) = some false
  k_NoPiece_NoStand : PySem.W.kitOne K (.ref c_NoPiece) (.ref c_NoStand) = some false
  k_NoPiece_NoPaper : PySem.W.kitOne K (.ref c_NoPiece) (.ref c_NoPaper) = some false
  k_NoPiece_NoBox : PySem.W.kitOne K (.ref c_NoPiece) (.ref c_NoBox) = some false
  k_NoPiece_NoSwitch : PySem.W.kitOne K (.ref c_NoPiece) (.ref c_NoSwitch) = some false
  k_NoPiece_NoPlace : PySem.W.kitOne K (.ref c_NoPiece) (.ref c_NoPlace) = some false
  k_NoPiece_NoTable : PySem.W.kitOne K (.ref c_NoPiece) (.ref c_NoTable) = some false
  k_NoPiece_NoText : PySem.W.kitOne K (.ref c_NoPiece) (.ref c_NoText) = some false
  k_NoPiece_NoRow : PySem.W.kitOne K (.ref c_NoPiece) (.ref c_NoRow) = some false
  k_NoPiece_NoPiece : PySem.W.kitOne K (.ref c_NoPiece) (.ref c_NoPiece) = some true
  k_NoPiece_NothingLeft : PySem.W.kitOne K (.ref c_NoPiece) (.ref c_NothingLeft) = some false
  k_NoPiece_TooMany : PySem.W.kitOne K (.ref c_NoPiece) (.ref c_TooMany) = some false
  k_NoPiece_ValueError : PySem.W.kitOne K (.ref c_NoPiece) (.type "ValueError") = some true
theorem Cls.exc_NoTrain {K : PySem.W.Frag} {mg : Str → Option Value} (Z : Cls K mg) : ExcCls K mg "NoTrain" Z.c_NoTrain [.type "ValueError", .type "Exception", .type "BaseException", .type "object"] "ValueError.__new__" := ⟨Z.m_NoTrain, Z.x_NoTrain⟩
theorem Cls.exc_NoStand {K : PySem.W.Frag} {mg : Str → Option Value} (Z : Cls K mg) : ExcCls K mg "NoStand" Z.c_NoStand [.type "ValueError", .type "Exception", .type "BaseException", .type "object"] "ValueError.__new__" := ⟨Z.m_NoStand, Z.x_NoStand⟩
theorem Cls.exc_NoPiece {K : PySem.W.Frag} {mg : Str → Option Value} (Z : Cls K mg) : ExcCls K mg "NoPiece" Z.c_NoPiece [.type "ValueError", .type "Exception", .type "BaseException", .type "object"] "ValueError.__new__" := ⟨Z.m_NoPiece, Z.x_NoPiece⟩
theorem Cls.isi_NoPiece {K : PySem.W.Frag} {mg : Str → Option Value} (Z : Cls K mg) : IsiCls K Z.c_NoPiece := ⟨Z.i_NoPiece_ga, Z.i_NoPiece_gt, Z.i_NoPiece_mb, Z.i_NoPiece_hd, Z.i_NoPiece_ca, Z.i_NoPiece_sp, Z.i_NoPiece_tk, Z.i_NoPiece_mr⟩
section
variable {P : Program} {w : World} {K : PySem.W.Frag} {mg : Str → Option Value} {base : Heap}
/-- a new list of ints has come -/
structure NewI (H H' : Hp) (l : Addr) (xs : List Int) : Prop where
  fr : H l = none
  sm : Same H H'
  at_ : H' l = some (.lst (iL xs))
theorem NewI.app {H H' : Hp} {l : Addr} {xs : List Int} {x : Int} (N : NewI H H' l xs) : NewI H (upd H' l (.lst (iL xs ++ [V.int x]))) l (xs ++ [x]) :=
  ⟨N.fr, fun b o e => by rw [upd_ne (ne_of_none e N.fr)]; exact N.sm b o e, by rw [upd_same]; simp [iL]⟩
theorem NewI.more {H H' H2 : Hp} {l : Addr} {xs : List Int} (N : NewI H H' l xs) (s : Same H' H2) : NewI H H2 l xs := ⟨N.fr, N.sm.trans s, s _ _ N.at_⟩
def spLaw (K : PySem.W.Frag) : Sp := fun vs H Q _ => ∃ (a : Addr) (ns : List Int), vs = [.ref a] ∧ SqL K H a (ns.map V.int) ∧ ns.length ≤ 63 ∧ ∀ H', Q (.bl true) H'

/-- what is raised: NoTrain where it is no train, else NoStand where no stand -/
def Exs (E : XK) (H : Hp) (CT CS : Addr) (tr st : Prop) : Prop := (¬ tr → ∀ H', Same H H' → E (.ref CT) none H') ∧ (tr → ¬ st → ∀ H', Same H H' → E (.ref CS) none H')
theorem Exs.on {E : XK} {H H1 : Hp} {CT CS : Addr} {tr st : Prop} (x : Exs E H CT CS tr st) (s : Same H H1) : Exs E H1 CT CS tr st := ⟨fun h H' s' => x.1 h H' (s.trans s'), fun h1 h2 H' s' => x.2 h1 h2 H' (s.trans s')⟩
def spCellAt (K : PySem.W.Frag) : Sp := fun vs H Q _ => ∃ (a : Addr) (ns : List Int) (k : Int), vs = [.ref a, .int k] ∧ SqL K H a (iL ns) ∧ 0 ≤ k ∧ ∀ v, Q (.int v) H
theorem ok_law_cell_at (T : Txt mg) (D : Def K mg "_law_cell_at" s_law_cell_at) : Callee P w K mg base "_law_cell_at" 1 (spCellAt K) := by
  refine D.ok sc_law_cell_at bd_law_cell_at (fun vs H Q E h => ?len) (fun f cdv A outer s H vs Q E hr h => ?body)
  case len => obtain ⟨a, ns, k, rfl, _⟩ := h; rfl
  case body =>
    obtain ⟨a, ns, kk, rfl, hS, h0, k⟩ := h
    have hu := hr.units
    refine ⟨_, (pss_cons (ps_if (pt_cmpR op_lt (pv 1) (pe_callB (call_lenK K) (by rfl) T.z_len bt_len (pa_cons (pv 0) pa_nil)) (nomark _))
 (pss_one (ps_ret (pe_ix (ix_K K) (pv 0) (pv 1) (by exact fun _ _ => rfl))))
 pss_nil)
 (pss_one (ps_ret pe_int))), ?_⟩
    dsimp only [tSeq, tAsg, gName, tOp, tUn, tTest, tB, tAnd, tOr, tNot, tAndV, tOrV, tNotV, tIf, tIfS, tRet, tRetN, tDrop, tNext, tCons, tNil, tCB, tCall, tMenu, tComp, iZip2, iEnum, tNoIf, tTru, tJoin, cxOf_K, tLst, tTup, tSl, tPart, tNoPart, tBM, tBM0, tChain, tC, tFor_eq, gTup, gStar, gLst, gCons, gNil, gSub, iList, iRng1, iRng2, iRng3, iTup, iZip3, tWhile, tRev, tRaise, tCallS, tTry, tAug, tPar, tNever, ipI, List.append_nil]
    walk_at "st"
    refine i_lenI hS ?_
    walk_at "st"
    refine i_if (fun g => ?_) (fun g => ?_)
    · walk_at "st"
      exact i_ixL hS h0 g (fun v _ _ => k v)
    · walk_at "st"
      exact k 0

def spDraws : Sp := fun vs H Q _ => ∃ cell many bas : Int, vs = [.int cell, .int many, .int bas] ∧ 0 ≤ many ∧ many ≤ 5000 ∧ 0 < bas ∧ bas < 1073741824 ∧
  ∀ l H' xs, NewI H H' l xs → (xs.length : Int) = many → (∀ x ∈ xs, 0 ≤ x ∧ x < bas) → Q (.ref l) H'
theorem ok_law_draws (T : Txt mg) (D : Def K mg "_law_draws" s_law_draws) : Callee P w K mg base "_law_draws" 1 spDraws := by
  refine D.ok sc_law_draws bd_law_draws (fun vs H Q E h => ?len) (fun f cdv A outer s H vs Q E hr h => ?body)
  case len => obtain ⟨p, a, x, rfl, _⟩ := h; rfl
  case body =>
    obtain ⟨cell, many, bas, rfl, h1, h2, h3, h4, k⟩ := h
    refine ⟨_, (pss_cons (ps_set (i := 3) sc_law_draws.nd rfl (Or.inl rfl) (pe_lst pa_nil))
 (pss_cons (ps_set (i := 4) sc_law_draws.nd rfl (Or.inl rfl) (pe_op op_mulP (pv 0) (pe_callTy call_intK (by rfl) T.z_int bt_int (pa_cons (pe_cmpR op_ge (pv 0) (pe_powK (r := 1000000000000000000) (by decide)) (nomark _)) pa_nil))))
 (pss_cons (ps_set (i := 5) sc_law_draws.nd rfl (Or.inl rfl) (pe_op op_mod (pv 0) pe_int))
 (pss_cons (ps_for PassesOwn.never rfl (pi_range1 (by rfl) T.z_range (pa_cons (pe_op op_addP (pv 1) pe_int) pa_nil)) (pg_name (i := 6) sc_law_draws.nd rfl (Or.inl rfl))
 (pss_cons (ps_set (i := 5) sc_law_draws.nd rfl (Or.inl rfl) (pe_op op_mod (pe_op op_addP (pe_op op_addP (pe_op op_addP (pe_op op_mulP (pv 5) (pv 5)) (pe_op op_mulP pe_int (pv 5))) (pv 6)) pe_int) pe_int))
 (pss_one (ps_if (PW.pt (pw_and (pt_cmpR op_gt (pv 6) pe_int (nomark _)) (pw_and1 (pt_cmpR op_gt (pv 4) pe_int (nomark _)))))
 (pss_cons (ps_expr (pe_bmK K PySem.F.plainAttrs_list PySem.F.slot_list_append PySem.F.type_list_append mt_append (pv 3) (pa_cons (pe_op op_mod (pv 4) (pv 2)) pa_nil)))
 (pss_one (ps_set (i := 4) sc_law_draws.nd rfl (Or.inl rfl) (pe_op op_fdiv (pv 4) (pv 2)))))
 (pss_one (ps_if (pt_cmpR op_gt (pv 6) pe_int (nomark _))
 (pss_one (ps_expr (pe_bmK K PySem.F.plainAttrs_list PySem.F.slot_list_append PySem.F.type_list_append mt_append (pv 3) (pa_cons (pe_op op_mod (pe_op op_fdiv (pv 5) pe_int) (pv 2)) pa_nil))))
 pss_nil))))))
 (pss_one (ps_ret (pv 3))))))), ?_⟩
    dsimp only [tSeq, tAsg, gName, tOp, tUn, tTest, tB, tAnd, tOr, tNot, tAndV, tOrV, tNotV, tIf, tIfS, tRet, tRetN, tDrop, tNext, tCons, tNil, tCB, tCall, tMenu, tComp, iZip2, iEnum, tNoIf, tTru, tJoin, cxOf_K, tLst, tTup, tSl, tPart, tNoPart, tBM, tBM0, tChain, tC, tFor_eq, gTup, gStar, gLst, gCons, gNil, gSub, iList, iRng1, iRng2, iRng3, iTup, iZip3, tWhile, tRev, tRaise, tCallS, tTry, tAug, tPar, tNever, ipI, List.append_nil]
    refine ⟨szl (by decide), fun l hl => ?_⟩
    walk_at "st"
    refine i_mulI (cmul_r ?_ ?_) ?_
    · split <;> decide
    · split <;> decide
    generalize cell * _ = rest
    walk_at "st"
    have hst0 : 0 ≤ cell % 2305843009213693951 := Int.emod_nonneg _ (by decide)
    have hst1 : cell % 2305843009213693951 < 2305843009213693951 := Int.emod_lt_of_pos _ (by decide)
    generalize cell % 2305843009213693951 = stirred at *
    refine ⟨by omega, by omega, lp_range (fun i σ H2 => ∃ (rest stirred : Int) (kk : Option V) (xs : List Int), σ = [some (.int cell), some (.int many), some (.int bas), some (.ref l), some (.int rest), some (.int stirred), kk] ∧
      0 ≤ stirred ∧ stirred < 2305843009213693951 ∧ NewI H H2 l xs ∧ xs.length = i - 3 ∧ ∀ x ∈ xs, 0 ≤ x ∧ x < bas) ?_ ?_ ?_⟩
    · exact ⟨rest, stirred, none, [], rfl, hst0, hst1, ⟨hl, same_upd hl, upd_same⟩, rfl, by simp⟩
    · rintro i σ H2 hi ⟨rest, stirred, kk, xs, rfl, s0, s1, N, hx, hb⟩
      walk_at "st"
      refine i_mulI (cmul_l (by omega) (by omega)) ?_
      walk_at "st"
      refine i_mulI (cmul_l (by decide) (by decide)) ?_
      walk_at "st"
      have hst0 := Int.emod_nonneg (stirred * stirred + 48271 * stirred + (0 + (i : Int)) + 1) (show (2305843009213693951 : Int) ≠ 0 by decide)
      have hst1 := Int.emod_lt_of_pos (stirred * stirred + 48271 * stirred + (0 + (i : Int)) + 1) (show (0 : Int) < 2305843009213693951 by decide)
      generalize (stirred * stirred + 48271 * stirred + (0 + (i : Int)) + 1) % 2305843009213693951 = stirred2 at *
      have app : ∀ v, 3 ≤ i → 0 ≤ v → v < bas → ∀ rest2, ∃ (rest stirred : Int) (kk : Option V) (ys : List Int), [some (V.int cell), some (.int many), some (.int bas), some (.ref l), some (.int rest2), some (.int stirred2), some (V.int (0 + (i : Int)))] = [some (.int cell), some (.int many), some (.int bas), some (.ref l), some (.int rest), some (.int stirred), kk] ∧
        0 ≤ stirred ∧ stirred < 2305843009213693951 ∧ NewI H (upd H2 l (.lst (iL xs ++ [V.int v]))) l ys ∧ ys.length = i + 1 - 3 ∧ ∀ x ∈ ys, 0 ≤ x ∧ x < bas := by
        intro v hi3 hv0 hv1 rest2
        refine ⟨rest2, stirred2, some (V.int (0 + (i : Int))), xs ++ [v], rfl, hst0, hst1, N.app, ?_, ?_⟩
        · simp; omega
        · intro x hxm
          rcases List.mem_append.mp hxm with z | z
          · exact hb x z
          · simp at z; subst z; exact ⟨hv0, hv1⟩
      have lenx : xs.length ≤ 100000 := by omega
      refine i_if (fun g1 => ?_) (fun g1 => ?_)
      · walk_at "st"
        refine i_if (fun g2 => ?_) (fun g2 => ?_)
        · walk_at "st"
          refine ⟨.inl ⟨rfl, _, SqL.of N.at_⟩, ?_⟩
          walk_at "st"
          refine i_app N.at_ (szlt (by simpa [iL] using lenx)) ?_
          walk_at "st"
          exact app _ (by omega) (Int.emod_nonneg _ (by omega)) (Int.emod_lt_of_pos _ h3) _
        · walk_at "st"
          refine i_if (fun g3 => ?_) (fun g3 => absurd g1 g3)
          walk_at "st"
          refine ⟨.inl ⟨rfl, _, SqL.of N.at_⟩, ?_⟩
          walk_at "st"
          refine i_app N.at_ (szlt (by simpa [iL] using lenx)) ?_
          exact app _ (by omega) (Int.emod_nonneg _ (by omega)) (Int.emod_lt_of_pos _ h3) _
      · walk_at "st"
        refine i_if (fun g3 => absurd g3 g1) (fun g3 => ?_)
        exact ⟨rest, stirred2, _, xs, rfl, hst0, hst1, N, by omega, hb⟩
    · rintro σ H2 ⟨rest, stirred, kk, xs, rfl, s0, s1, N, hx, hb⟩
      walk_at "st"
      exact k l H2 xs N (by omega) hb

def spWhole : Sp := fun vs H Q _ => ∃ i, vs = [.int i] ∧ Q (.bl true) H
theorem ok_law_whole (T : Txt mg) (D : Def K mg "_law_whole" s_law_whole) : Callee P w K mg base "_law_whole" 1 spWhole := by
  refine D.ok sc_law_whole bd_law_whole (fun vs H Q E h => ?len) (fun f cdv A outer s H vs Q E hr h => ?body)
  case len => obtain ⟨i, rfl, _⟩ := h; rfl
  case body =>
    obtain ⟨i, rfl, k⟩ := h
    refine ⟨_, (pss_one (ps_ret (pe_and (pe_callB (call_isinstanceK K) (by rfl) T.z_isinstance bt_isinstance (pa_cons (pv 0) (pa_cons (pe_bltn (by rfl) T.z_int bt_int (show RelV (.ty "int") _ from rfl)) pa_nil))) (pe_one (pe_not (pe_callB (call_isinstanceK K) (by rfl) T.z_isinstance bt_isinstance (pa_cons (pv 0) (pa_cons (pe_bltn (by rfl) T.z_bool bt_bool (show RelV (.ty "bool") _ from rfl)) pa_nil)))))))), ?_⟩
    dsimp only [tSeq, tAsg, gName, tOp, tUn, tTest, tB, tAnd, tOr, tNot, tAndV, tOrV, tNotV, tIf, tIfS, tRet, tRetN, tDrop, tNext, tCons, tNil, tCB, tCall, tMenu, tComp, iZip2, iEnum, tNoIf, tTru, tJoin, cxOf_K, tLst, tTup, tSl, tPart, tNoPart, tBM, tBM0, tChain, tC, tFor_eq, gTup, gStar, gLst, gCons, gNil, gSub, iList, iRng1, iRng2, iRng3, iTup, iZip3, tWhile, tRev, tRaise, tCallS, tTry, tAug, tPar, tNever, ipI, List.append_nil]
    walk_at "st"
    exact k

--SPLIT
abbrev bL (bs : List Bool) : List V := bs.map V.bl
theorem i_isx {H : Hp} {Q : VK} {e D C' : Addr} {b : Bool} (he : H e = some (.ext (ExcAt e (.ref D)))) (C : IsiCls K D) (hk : PySem.W.kitOne K (.ref D) (.ref C') = some b) (q : Q (.bl b) H) : rIsiX K [.ref e, .ref C'] H Q := ⟨e, D, _, _, b, rfl, fun _ h => h, he, C, hk, q⟩
theorem i_isxT {H : Hp} {Q : VK} {e D : Addr} {n : String} {b : Bool} (he : H e = some (.ext (ExcAt e (.ref D)))) (C : IsiCls K D) (hk : PySem.W.kitOne K (.ref D) (.type n) = some b) (q : Q (.bl b) H) : rIsiX K [.ref e, .ty n] H Q := ⟨e, D, _, _, b, rfl, fun _ h => h, he, C, hk, q⟩
theorem bt_ValueError : bootBuiltins "ValueError" = some (.type "ValueError") := by decide +kernel
structure KinF (Z : Cls K mg) (C : Addr) (b0 b1 b2 b3 b4 b5 b6 b7 b8 b9 b10 b11 : Bool) : Prop where
  isi : IsiCls K C
  f0 : PySem.W.kitOne K (.ref C) (.ref Z.c_NoTrain) = some b0
  f1 : PySem.W.kitOne K (.ref C) (.ref Z.c_NoStand) = some b1
  f2 : PySem.W.kitOne K (.ref C) (.ref Z.c_NoPaper) = some b2
  f3 : PySem.W.kitOne K (.ref C) (.ref Z.c_NoBox) = some b3
  f4 : PySem.W.kitOne K (.ref C) (.ref Z.c_NoSwitch) = some b4
  f5 : PySem.W.kitOne K (.ref C) (.ref Z.c_NoPlace) = some b5
  f6 : PySem.W.kitOne K (.ref C) (.ref Z.c_NoTable) = some b6
  f7 : PySem.W.kitOne K (.ref C) (.ref Z.c_NoText) = some b7
  f8 : PySem.W.kitOne K (.ref C) (.ref Z.c_NoRow) = some b8
  f9 : PySem.W.kitOne K (.ref C) (.ref Z.c_NoPiece) = some b9
  f10 : PySem.W.kitOne K (.ref C) (.ref Z.c_NothingLeft) = some b10
  f11 : PySem.W.kitOne K (.ref C) (.ref Z.c_TooMany) = some b11
  f12 : PySem.W.kitOne K (.ref C) (.type "ValueError") = some true
def spKinG (Z : Cls K mg) : Sp := fun vs H Q _ => ∃ (e C : Addr) (b0 b1 b2 b3 b4 b5 b6 b7 b8 b9 b10 b11 : Bool), vs = [.ref e] ∧ H e = some (.ext (ExcAt e (.ref C))) ∧ KinF Z C b0 b1 b2 b3 b4 b5 b6 b7 b8 b9 b10 b11 ∧ ∀ l H', Same H H' → H' l = some (.lst (bL [b0, b1, b2, b3, b4, b5, b6, b7, b8, b9, b10, b11, true])) → Q (.ref l) H'
theorem ok_law_a_kin (T : Txt mg) (Z : Cls K mg) (D : Def K mg "_law_a_kin" s_law_a_kin) : CalleeN P w K mg base "_law_a_kin" 1 (spKinG Z) := by
  refine Def.okN D sc_law_a_kin bd_law_a_kin (fun vs H Q E h => ?len) (fun f cdv A outer s H vs Q E hr h => ?body)
  case len => obtain ⟨e, C, b0, b1, b2, b3, b4, b5, b6, b7, b8, b9, b10, b11, rfl, _⟩ := h; rfl
  case body =>
    obtain ⟨e, C, b0, b1, b2, b3, b4, b5, b6, b7, b8, b9, b10, b11, rfl, hE, F, k⟩ := h
    refine ⟨_, (pss_cons (ps_set (i := 1) sc_law_a_kin.nd rfl (Or.inl rfl) (pe_lst (pa_cons (pe_callB (call_isinstanceX K) (by rfl) T.z_isinstance bt_isinstance (pa_cons (pv 0) (pa_cons (pe_globR Z.m_NoTrain (by rfl)) pa_nil))) (pa_cons (pe_callB (call_isinstanceX K) (by rfl) T.z_isinstance bt_isinstance (pa_cons (pv 0) (pa_cons (pe_globR Z.m_NoStand (by rfl)) pa_nil))) (pa_cons (pe_callB (call_isinstanceX K) (by rfl) T.z_isinstance bt_isinstance (pa_cons (pv 0) (pa_cons (pe_globR Z.m_NoPaper (by rfl)) pa_nil))) (pa_cons (pe_callB (call_isinstanceX K) (by rfl) T.z_isinstance bt_isinstance (pa_cons (pv 0) (pa_cons (pe_globR Z.m_NoBox (by rfl)) pa_nil))) pa_nil))))))
 (pss_cons (ps_set (i := 1) sc_law_a_kin.nd rfl (Or.inl rfl) (pe_op op_addP (pv 1) (pe_lst (pa_cons (pe_callB (call_isinstanceX K) (by rfl) T.z_isinstance bt_isinstance (pa_cons (pv 0) (pa_cons (pe_globR Z.m_NoSwitch (by rfl)) pa_nil))) (pa_cons (pe_callB (call_isinstanceX K) (by rfl) T.z_isinstance bt_isinstance (pa_cons (pv 0) (pa_cons (pe_globR Z.m_NoPlace (by rfl)) pa_nil))) (pa_cons (pe_callB (call_isinstanceX K) (by rfl) T.z_isinstance bt_isinstance (pa_cons (pv 0) (pa_cons (pe_globR Z.m_NoTable (by rfl)) pa_nil))) pa_nil))))))
 (pss_cons (ps_set (i := 1) sc_law_a_kin.nd rfl (Or.inl rfl) (pe_op op_addP (pv 1) (pe_lst (pa_cons (pe_callB (call_isinstanceX K) (by rfl) T.z_isinstance bt_isinstance (pa_cons (pv 0) (pa_cons (pe_globR Z.m_NoText (by rfl)) pa_nil))) (pa_cons (pe_callB (call_isinstanceX K) (by rfl) T.z_isinstance bt_isinstance (pa_cons (pv 0) (pa_cons (pe_globR Z.m_NoRow (by rfl)) pa_nil))) (pa_cons (pe_callB (call_isinstanceX K) (by rfl) T.z_isinstance bt_isinstance (pa_cons (pv 0) (pa_cons (pe_globR Z.m_NoPiece (by rfl)) pa_nil))) pa_nil))))))
 (pss_one (ps_ret (pe_op op_addP (pv 1) (pe_lst (pa_cons (pe_callB (call_isinstanceX K) (by rfl) T.z_isinstance bt_isinstance (pa_cons (pv 0) (pa_cons (pe_globR Z.m_NothingLeft (by rfl)) pa_nil))) (pa_cons (pe_callB (call_isinstanceX K) (by rfl) T.z_isinstance bt_isinstance (pa_cons (pv 0) (pa_cons (pe_globR Z.m_TooMany (by rfl)) pa_nil))) (pa_cons (pe_callB (call_isinstanceX K) (by rfl) T.z_isinstance bt_isinstance (pa_cons (pv 0) (pa_cons (pe_bltn (by rfl) T.z_ValueError bt_ValueError (show RelV (.ty "ValueError") _ from rfl)) pa_nil))) pa_nil)))))))))), ?_⟩
    dsimp only [tSeq, tAsg, gName, tOp, tUn, tTest, tB, tAnd, tOr, tNot, tAndV, tOrV, tNotV, tIf, tIfS, tRet, tRetN, tDrop, tNext, tCons, tNil, tCB, tCall, tMenu, tComp, iZip2, iEnum, tNoIf, tTru, tJoin, cxOf_K, tLst, tTup, tSl, tPart, tNoPart, tBM, tBM0, tChain, tC, tFor_eq, gTup, gStar, gLst, gCons, gNil, gSub, iList, iRng1, iRng2, iRng3, iTup, iZip3, tWhile, tRev, tRaise, tCallS, tTry, tAug, tPar, tNever, ipI, List.append_nil]
    walk_at "st"
    refine i_isx hE F.isi F.f0 ?_
    walk_at "st"
    refine i_isx hE F.isi F.f1 ?_
    walk_at "st"
    refine i_isx hE F.isi F.f2 ?_
    walk_at "st"
    refine i_isx hE F.isi F.f3 ?_
    walk_at "st"
    intro l1 h1
    have s1 : Same H _ := same_upd (o := .lst [.bl b0, .bl b1, .bl b2, .bl b3]) h1
    have e1 : upd H l1 (.lst [.bl b0, .bl b1, .bl b2, .bl b3]) l1 = some (.lst [.bl b0, .bl b1, .bl b2, .bl b3]) := upd_same
    generalize upd H l1 (.lst [.bl b0, .bl b1, .bl b2, .bl b3]) = H1 at *
    have hE1 := s1 _ _ hE
    walk_at "st"
    refine i_isx hE1 F.isi F.f4 ?_
    walk_at "st"
    refine i_isx hE1 F.isi F.f5 ?_
    walk_at "st"
    refine i_isx hE1 F.isi F.f6 ?_
    walk_at "st"
    intro l2 h2
    refine i_addL (a := l1) (b := l2) (same_upd h2 _ _ e1) upd_same (szl (by simp)) (fun l3 h3 => ?_)
    have s3 : Same H1 _ := (same_upd (o := .lst [.bl b4, .bl b5, .bl b6]) h2).trans (same_upd (o := .lst ([.bl b0, .bl b1, .bl b2, .bl b3] ++ [.bl b4, .bl b5, .bl b6])) h3)
    have e3 : upd (upd H1 l2 (.lst [.bl b4, .bl b5, .bl b6])) l3 (.lst ([.bl b0, .bl b1, .bl b2, .bl b3] ++ [.bl b4, .bl b5, .bl b6])) l3 = some (.lst ([.bl b0, .bl b1, .bl b2, .bl b3] ++ [.bl b4, .bl b5, .bl b6])) := upd_same
    generalize upd (upd H1 l2 (.lst [.bl b4, .bl b5, .bl b6])) l3 (.lst ([.bl b0, .bl b1, .bl b2, .bl b3] ++ [.bl b4, .bl b5, .bl b6])) = H3 at *
    have S3 := s1.trans s3
    have hE3 := S3 _ _ hE
    walk_at "st"
    refine i_isx hE3 F.isi F.f7 ?_
    walk_at "st"
    refine i_isx hE3 F.isi F.f8 ?_
    walk_at "st"
    refine i_isx hE3 F.isi F.f9 ?_
    walk_at "st"
    intro l4 h4
    refine i_addL (a := l3) (b := l4) (same_upd h4 _ _ e3) upd_same (szl (by simp)) (fun l5 h5 => ?_)
    generalize hx5 : ([.bl b0, .bl b1, .bl b2, .bl b3] ++ [.bl b4, .bl b5, .bl b6] ++ [.bl b7, .bl b8, .bl b9] : List V) = x5 at *
    have s5 : Same H3 _ := (same_upd (o := .lst [.bl b7, .bl b8, .bl b9]) h4).trans (same_upd (o := .lst x5) h5)
    have e5 : upd (upd H3 l4 (.lst [.bl b7, .bl b8, .bl b9])) l5 (.lst x5) l5 = some (.lst x5) := upd_same
    generalize upd (upd H3 l4 (.lst [.bl b7, .bl b8, .bl b9])) l5 (.lst x5) = H5 at *
    have S5 := S3.trans s5
    have hE5 := S5 _ _ hE
    walk_at "st"
    refine i_isx hE5 F.isi F.f10 ?_
    walk_at "st"
    refine i_isx hE5 F.isi F.f11 ?_
    walk_at "st"
    refine i_isxT hE5 F.isi F.f12 ?_
    walk_at "st"
    intro l6 h6
    refine i_addL (a := l5) (b := l6) (same_upd h6 _ _ e5) upd_same (szl (by rw [← hx5]; simp)) (fun l7 h7 => ?_)
    refine k l7 _ ((S5.trans (same_upd h6)).trans (same_upd h7)) ?_
    rw [upd_same, ← hx5]
    rfl

def kinNames : List Str := ["NoTrain", "NoStand", "NoPaper", "NoBox", "NoSwitch", "NoPlace", "NoTable", "NoText", "NoRow", "NoPiece", "NothingLeft", "TooMany"]
theorem pd_str {H : Hp} {n : Nat} {x : Str} (h : PyData.strOk x = true) : PdAt K H n (.str x) (.str x) := by cases n <;> exact ⟨rfl, h⟩
theorem i_eqS {H : Hp} {Q : VK} {x y : Str} (hx : PyData.strOk x = true) (hy : PyData.strOk y = true) (q : Q (.bl (x == y)) H) : rEqP K (.str x) (.str y) H Q := ⟨_, _, pd_str hx, pd_str hy, by simpa [PyData.eqv] using q⟩
theorem names_ok : kinNames.all PyData.strOk = true := by decide +kernel
def dueX (x : Str) : List Bool := kinNames.map (· == x) ++ [true]
def spDueKinG : Sp := fun vs H Q _ => ∃ x : Str, vs = [.str x] ∧ PyData.strOk x = true ∧ ∀ l H', Same H H' → H' l = some (.lst (bL (dueX x))) → Q (.ref l) H'
theorem ok_law_due_kin (T : Txt mg) (D : Def K mg "_law_due_kin" s_law_due_kin) : Callee P w K mg base "_law_due_kin" 1 spDueKinG := by
  refine D.ok sc_law_due_kin bd_law_due_kin (fun vs H Q E h => ?len) (fun f cdv A outer s H vs Q E hr h => ?body)
  case len => obtain ⟨x, rfl, _⟩ := h; rfl
  case body =>
    obtain ⟨nm, rfl, hnm, k⟩ := h
    have hu := hr.units
    refine ⟨_, (pss_cons (ps_set (i := 1) sc_law_due_kin.nd rfl (Or.inl rfl) (pe_lst (pa_cons pe_str (pa_cons pe_str (pa_cons pe_str (pa_cons pe_str (pa_cons pe_str (pa_cons pe_str (pa_cons pe_str (pa_cons pe_str (pa_cons pe_str pa_nil)))))))))))
 (pss_cons (ps_set (i := 1) sc_law_due_kin.nd rfl (Or.inl rfl) (pe_op op_addP (pv 1) (pe_lst (pa_cons pe_str (pa_cons pe_str (pa_cons pe_str pa_nil))))))
 (pss_one (ps_ret (pe_op op_addP (by exact pe_comp (N := ["one", "name"]) (fr := [none, some 0]) ⟨by rfl, by decide +kernel, by decide +kernel, (show ∀ y ∈ (_ : List (Str × NameKind)), y.2 = NameKind.free → (defScope s_law_due_kin).names.lookup y.1 = some .cell ∨ (defScope s_law_due_kin).names.lookup y.1 = some .free by decide +kernel), (fr_none (fr_some (by rfl) (by first | exact Or.inl rfl | exact Or.inr rfl) (by rfl) fr_nil))⟩ (by rfl) (pi_listK K (pv 1)) (fun _ _ _ _ => (pg_name (i := 0) (show List.Nodup (["one", "name"] : List Str) by decide) (by rfl) (by exact Or.inl rfl))) (fun _ _ _ _ => pifs_nil) (fun _ _ _ _ => (pe_cmpR (op_eqK K hu) (pv 0) (pv 1) (nomark _))) (gw_name (by rfl))) (pe_lst (pa_cons pe_bl pa_nil))))))), ?_⟩
    dsimp only [tSeq, tAsg, gName, tOp, tUn, tTest, tB, tAnd, tOr, tNot, tAndV, tOrV, tNotV, tIf, tIfS, tRet, tRetN, tDrop, tNext, tCons, tNil, tCB, tCall, tMenu, tComp, iZip2, iEnum, tNoIf, tTru, tJoin, cxOf_K, tLst, tTup, tSl, tPart, tNoPart, tBM, tBM0, tChain, tC, tFor_eq, gTup, gStar, gLst, gCons, gNil, gSub, iList, iRng1, iRng2, iRng3, iTup, iZip3, tWhile, tRev, tRaise, tCallS, tTry, tAug, tPar, tNever, ipI, List.append_nil]
    walk_at "st"
    intro l1 h1
    walk_at "st"
    intro l2 h2
    refine i_addL (a := l1) (b := l2) (same_upd h2 _ _ upd_same) upd_same (szl (by simp)) (fun l3 h3 => ?_)
    have s3' : ∀ o, Same H (upd _ l3 o) := fun o => ((same_upd h1).trans (same_upd h2)).trans (same_upd (o := o) h3)
    generalize hH : upd _ l3 _ = H3
    have s3 : Same H H3 := by rw [← hH]; exact s3' _
    have e4 : H3 l3 = some (.lst (kinNames.map V.str)) := by rw [← hH, upd_same]; rfl
    walk_at "st"
    refine ⟨⟨_, SqL.of e4⟩, cp_list (xs := kinNames.map V.str) (fun i ys H4 => ys = bL ((kinNames.take i).map (· == nm)) ∧ i ≤ 12 ∧ H3 = H4) ⟨by simp [bL], Nat.zero_le _, rfl⟩ ?_ (szlt (by simp [kinNames])) ?_ ?_⟩
    · rintro i ys H4 ⟨rfl, hi, rfl⟩
      exact ⟨SqL.of e4, by simp [bL]; omega⟩
    · rintro i x ys H4 hx ⟨rfl, hi, rfl⟩
      rw [List.getElem?_map] at hx
      obtain ⟨z, hz, rfl⟩ := Option.map_eq_some_iff.mp hx
      have hil : i < kinNames.length := (List.getElem?_eq_some_iff.mp hz).1
      walk_at "st"
      refine i_eqS (List.all_eq_true.mp names_ok z (List.mem_of_getElem? hz)) hnm ?_
      refine ⟨?_, by simp [kinNames] at hil; omega, rfl⟩
      rw [take_snoc_get hz]
      simp [bL]
    · rintro l5 ys H4 ⟨rfl, hi, rfl⟩ h5
      walk_at "st"
      intro l6 h6
      refine i_addL (a := l5) (b := l6) (same_upd h6 _ _ upd_same) upd_same (szl (by simp [bL, kinNames])) (fun l7 h7 => ?_)
      refine k l7 _ (((s3.trans (same_upd h5)).trans (same_upd h6)).trans (same_upd h7)) ?_
      rw [upd_same]
      rfl

--SPLIT
theorem paired_getL {α β : Type} {F : α → β → Prop} : ∀ {as : List α} {bs : List β} {i : Nat} {a : α}, Paired F as bs → as[i]? = some a → ∃ b, bs[i]? = some b ∧ F a b
  | _, _, i, b, .nil, h => by simp at h
  | _, _, 0, b, .cons r _, h => by simp at h; subst h; exact ⟨_, rfl, r⟩
  | _, _, i + 1, b, .cons _ t, h => by
    obtain ⟨a, h1, h2⟩ := paired_getL (i := i) (a := b) t (by simpa using h)
    exact ⟨a, by simpa using h1, h2⟩
abbrev MsAt (H : Hp) (ts : List Addr) (ms : List (Int × Int)) : Prop := Paired (fun t (m : Int × Int) => H t = some (.tup [.int m.1, .int m.2])) ts ms
theorem MsAt.more {H H' : Hp} {ts : List Addr} {ms : List (Int × Int)} (h : MsAt H ts ms) (s : Same H H') : MsAt H' ts ms := Paired.mapP h fun _ _ e => s _ _ e
theorem MsAt.up {H : Hp} {l : Addr} {vs ws : List V} {ts : List Addr} {ms : List (Int × Int)} (h : MsAt H ts ms) (hl : H l = some (.lst ws)) : MsAt (upd H l (.lst vs)) ts ms :=
  Paired.mapP h fun t m e => by
    have : t ≠ l := fun z => by rw [z, hl] at e; cases e
    rw [upd_ne this]; exact e

/-- a stand as a tuple: the handle and a list of the wheels -/
def StAt (H : Hp) (t : Addr) (L : List Int) : Prop := ∃ lw h ws, L = h :: ws ∧ H t = some (.tup [.int h, .ref lw]) ∧ H lw = some (.lst (iL ws))
theorem StAt.more {H H' : Hp} {t : Addr} {L : List Int} (h : StAt H t L) (s : Same H H') : StAt H' t L := by
  obtain ⟨lw, x, ws, e, a, b⟩ := h
  exact ⟨lw, x, ws, e, s _ _ a, s _ _ b⟩

def spRefPieceE (K : PySem.W.Frag) (CN : Addr) : Sp := fun vs H Q E => ∃ (a : Addr) (ps : List Int) (p : Int), vs = [.ref a, .int p] ∧ SqL K H a (iL ps) ∧ (-1 ≤ p ∧ p < ps.length → Q .non H) ∧ (¬ (-1 ≤ p ∧ p < ps.length) → E (.ref CN) none H)
theorem ok_refuse_no_piece (T : Txt mg) (Z : Cls K mg) (D : Def K mg "refuse_no_piece" s_refuse_no_piece) : CalleeE P w K mg base "refuse_no_piece" 1 (spRefPieceE K Z.c_NoPiece) := by
  refine Def.okE D sc_refuse_no_piece bd_refuse_no_piece (fun vs H Q E h => ?len) (fun f cdv A outer s H vs Q E hr h => ?body)
  case len => obtain ⟨a, ps, p, rfl, _⟩ := h; rfl
  case body =>
    obtain ⟨a, ps, p, rfl, hA, k1, k2⟩ := h
    have hu := hr.units
    refine ⟨_, (pss_one (ps_if (pt_not (pt_chain op_le op_lt (pe_negK (r := -1) (by decide)) (pv 1) (pe_callB (call_lenK K) (by rfl) T.z_len bt_len (pa_cons (pv 0) pa_nil))))
 (pss_one (ps_raise Z.exc_NoPiece PySem.F.excBase_ValueError (by rfl) (pa_cons pe_str pa_nil)))
 pss_nil)), ?_⟩
    dsimp only [tSeq, tAsg, gName, tOp, tUn, tTest, tB, tAnd, tOr, tNot, tAndV, tOrV, tNotV, tIf, tIfS, tRet, tRetN, tDrop, tNext, tCons, tNil, tCB, tCall, tMenu, tComp, iZip2, iEnum, tNoIf, tTru, tJoin, cxOf_K, tLst, tTup, tSl, tPart, tNoPart, tBM, tBM0, tChain, tC, tFor_eq, gTup, gStar, gLst, gCons, gNil, gSub, iList, iRng1, iRng2, iRng3, iTup, iZip3, tWhile, tRev, tRaise, tCallS, tTry, tAug, tPar, tNever, ipI, List.append_nil]
    walk_at "st"
    refine i_if (fun g1 => ?_) (fun g1 => ?_)
    · walk_at "st"
      refine i_lenI hA ?_
      walk_at "st"
      refine i_ifn (fun g2 => ?_) (fun g2 => ?_)
      · walk_at "st"
        exact ⟨by simp, k2 fun z => g2 z.2⟩
      · walk_at "st"
        exact k1 ⟨g1, g2⟩
    · walk_at "st"
      exact ⟨by simp, k2 fun z => g1 z.1⟩

def spDragged : Sp := fun vs H Q _ => ∃ p a x, vs = [.int p, .int a, .int x] ∧ Q (.int (drag p a x)) H
theorem ok_dragged (T : Txt mg) (D : Def K mg "dragged" s_dragged) : Callee P w K mg base "dragged" 1 spDragged := by
  refine D.ok sc_dragged bd_dragged (fun vs H Q E h => ?len) (fun f cdv A outer s H vs Q E hr h => ?body)
  case len => obtain ⟨p, a, x, rfl, _⟩ := h; rfl
  case body =>
    obtain ⟨p, a, x, rfl, k⟩ := h
    unfold drag at k
    refine ⟨_, (pss_cons (ps_if (pt_cmpR op_lt (pv 2) (pe_op op_sub (pv 1) (pv 0)) (nomark _))
 (pss_one (ps_ret (pe_op op_sub (pv 1) (pv 0))))
 pss_nil)
 (pss_cons (ps_if (pt_cmpR op_gt (pv 2) (pe_op op_addP (pv 1) (pv 0)) (nomark _))
 (pss_one (ps_ret (pe_op op_addP (pv 1) (pv 0))))
 pss_nil)
 (pss_one (ps_ret (pv 2))))), ?_⟩
    dsimp only [tSeq, tAsg, gName, tOp, tUn, tTest, tB, tAnd, tOr, tNot, tAndV, tOrV, tNotV, tIf, tIfS, tRet, tRetN, tDrop, tNext, tCons, tNil, tCB, tCall, tMenu, tComp, iZip2, iEnum, tNoIf, tTru, tJoin, cxOf_K, tLst, tTup, tSl, tPart, tNoPart, tBM, tBM0, tChain, tC, tFor_eq, gTup, gStar, gLst, gCons, gNil, gSub, iList, iRng1, iRng2, iRng3, iTup, iZip3, tWhile, tRev, tRaise, tCallS, tTry, tAug, tPar, tNever, ipI, List.append_nil]
    walk_at "st"
    refine i_if (fun h1 => ?_) (fun h1 => ?_)
    · walk_at "st"
      rw [if_pos h1] at k; exact k
    · walk_at "st"
      rw [if_neg h1] at k
      refine i_if (fun h2 => ?_) (fun h2 => ?_)
      · walk_at "st"
        rw [if_pos h2] at k; exact k
      · walk_at "st"
        rw [if_neg h2] at k; exact k

def spAllDr (K : PySem.W.Frag) : Sp := fun vs H Q _ => ∃ (a b : Addr) (ps xs : List Int) (c : Int), vs = [.ref a, .ref b, .int c] ∧ SqL K H a (iL ps) ∧ SqL K H b (iL xs) ∧ ps.length ≤ 12 ∧ (∀ p ∈ ps, 0 ≤ p) ∧ ∀ l H', NewI H H' l (dragAll ps xs c) → Q (.ref l) H'
theorem ok_all_dragged (T : Txt mg) (D : Def K mg "all_dragged" s_all_dragged) (C_dragged : Callee P w K mg base "dragged" 1 spDragged) : Callee P w K mg base "all_dragged" 2 (spAllDr K) := by
  refine D.ok sc_all_dragged bd_all_dragged (fun vs H Q E h => ?len) (fun f cdv A outer s H vs Q E hr h => ?body)
  case len => obtain ⟨a, b, ps, xs, c, rfl, _⟩ := h; rfl
  case body =>
    obtain ⟨a, b, ps, xs, c, rfl, hA, hB, h12, hp0, k⟩ := h
    refine ⟨_, (pss_cons (ps_set (i := 3) sc_all_dragged.nd rfl (Or.inl rfl) (pe_lst pa_nil))
 (pss_cons (ps_set (i := 4) sc_all_dragged.nd rfl (Or.inl rfl) (pv 2))
 (pss_cons (ps_for PassesOwn.never rfl (pi_zip2K K (by rfl) T.z_zip (pa_cons (pv 0) (pa_cons (pv 1) pa_nil))) (pg_tupK K 2 (pgs_cons (pg_name (i := 5) sc_all_dragged.nd rfl (Or.inl rfl)) (pgs_cons (pg_name (i := 6) sc_all_dragged.nd rfl (Or.inl rfl)) pgs_nil)))
 (pss_cons (ps_set (i := 4) sc_all_dragged.nd rfl (Or.inl rfl) (pe_callN C_dragged (hr.mono (by decide)) (by rfl) (pa_cons (pv 5) (pa_cons (pv 4) (pa_cons (pv 6) pa_nil)))))
 (pss_one (ps_expr (pe_bmK K PySem.F.plainAttrs_list PySem.F.slot_list_append PySem.F.type_list_append mt_append (pv 3) (pa_cons (pv 4) pa_nil))))))
 (pss_one (ps_ret (pv 3)))))), ?_⟩
    dsimp only [tSeq, tAsg, gName, tOp, tUn, tTest, tB, tAnd, tOr, tNot, tAndV, tOrV, tNotV, tIf, tIfS, tRet, tRetN, tDrop, tNext, tCons, tNil, tCB, tCall, tMenu, tComp, iZip2, iEnum, tNoIf, tTru, tJoin, cxOf_K, tLst, tTup, tSl, tPart, tNoPart, tBM, tBM0, tChain, tC, tFor_eq, gTup, gStar, gLst, gCons, gNil, gSub, iList, iRng1, iRng2, iRng3, iTup, iZip3, tWhile, tRev, tRaise, tCallS, tTry, tAug, tPar, tNever, ipI, List.append_nil]
    walk_at "st"
    intro l hl
    walk_at "st"
    have s1 : Same H (upd H l (.lst [])) := same_upd hl
    refine ⟨_, _, rfl, ⟨_, s1.seq hA⟩, ⟨_, s1.seq hB⟩, lp_zip (xs := iL ps) (ys := iL xs) (fun i σ H2 => ∃ (ah : Int) (u v : Option V) (dn : List Int), σ = [some (.ref a), some (.ref b), some (.int c), some (.ref l), some (.int ah), u, v] ∧ NewI H H2 l dn ∧ dn.length ≤ 12 ∧ dn.length = i ∧ dragAll ps xs c = dn ++ dragAll (ps.drop i) (xs.drop i) ah) ?_ ?_ ?_ ?_⟩
    · exact ⟨c, _, _, [], rfl, ⟨hl, s1, upd_same⟩, by simp, rfl, rfl⟩
    · rintro i σ H2 ⟨ah, u, v, dn, rfl, N, hl12, hi, hk⟩
      exact ⟨N.sm.seq hA, N.sm.seq hB⟩
    · rintro i x y t σ H2 hx hy ⟨ah, u, v, dn, rfl, N, hl12, hi, hk⟩ ht
      rw [List.getElem?_map] at hx hy
      obtain ⟨p, hp, rfl⟩ := Option.map_eq_some_iff.mp hx
      obtain ⟨q, hq, rfl⟩ := Option.map_eq_some_iff.mp hy
      have hpl : i < ps.length := (List.getElem?_eq_some_iff.mp hp).1
      walk_at "st"
      refine ⟨_, _, rfl, SqT.of upd_same, rfl, _, _, rfl, _, _, rfl, rfl, ?_⟩
      walk_at "st"
      refine ⟨p, ah, q, rfl, ?_⟩
      rw [dropc hp, dropc hq] at hk
      have N2 := N.more (same_upd (o := .tup [.int p, .int q]) ht)
      walk_at "st"
      refine ⟨.inl ⟨rfl, _, SqL.of N2.at_⟩, ?_⟩
      walk_at "st"
      refine i_app N2.at_ (szlt (by simp [iL]; omega)) ?_
      refine ⟨_, _, _, dn ++ [drag p ah q], rfl, N2.app, by simp; omega, by simp; omega, ?_⟩
      rw [hk, dragAll]; simp
    · rintro σ H2 ⟨ah, u, v, dn, rfl, N, hl12, hi, hk⟩
      walk_at "st"
      have e : dragAll ps xs c = dn := by
        rw [hk]
        simp only [iL, List.length_map]
        by_cases h : ps.length ≤ xs.length
        · rw [Nat.min_eq_left h, List.drop_of_length_le (Nat.le_refl _), dragAll_nil, List.append_nil]
        · rw [Nat.min_eq_right (by omega), List.drop_of_length_le (l := xs) (Nat.le_refl _), dragAll_nil2, List.append_nil]
      rw [e] at k
      exact k l H2 N

--SPLIT
def spMoved (K : PySem.W.Frag) : Sp := fun vs H Q _ => ∃ (a b : Addr) (ps ws : List Int) (h p c : Int), vs = [.ref a, .int h, .ref b, .int p, .int c] ∧ H a = some (.lst (iL ps)) ∧ H b = some (.lst (iL ws)) ∧ ws.length = ps.length ∧ ps.length ≤ 12 ∧ (∀ x ∈ ps, 0 ≤ x) ∧ -1 ≤ p ∧ p < ps.length ∧
  ∀ t lw H' hd tl, Same H H' → H t = none → H lw = none → gAll ps (h :: ws) (p + 1).toNat c = hd :: tl → H' t = some (.tup [.int hd, .ref lw]) → H' lw = some (.lst (iL tl)) → Q (.ref t) H'
theorem ok_moved (T : Txt mg) (D : Def K mg "moved" s_moved) (C_all_dragged : Callee P w K mg base "all_dragged" 2 (spAllDr K)) : Callee P w K mg base "moved" 3 (spMoved K) := by
  refine D.ok sc_moved bd_moved (fun vs H Q E h => ?len) (fun f cdv A outer s H vs Q E hr h => ?body)
  case len => obtain ⟨a, b, ps, ws, h, p, c, rfl, _⟩ := h; rfl
  case body =>
    obtain ⟨a, b, ps, ws, h, p, c, rfl, hA, hB, hwl, hpl, hp0, hp1, hp2, k⟩ := h
    have hu := hr.units
    obtain ⟨m, hm⟩ : ∃ m : Nat, p + 1 = (m : Int) := ⟨(p + 1).toNat, by omega⟩
    have hmt : (p + 1).toNat = m := by omega
    have hm2 : m ≤ ps.length := by omega
    refine ⟨_, (pss_cons (ps_set (i := 5) sc_moved.nd rfl (Or.inl rfl) (pe_op op_addP (pe_lst (pa_cons (pv 1) pa_nil)) (pv 2)))
 (pss_cons (ps_set (i := 6) sc_moved.nd rfl (Or.inl rfl) (pe_op op_addP (pv 3) pe_int))
 (pss_cons (ps_set (i := 7) sc_moved.nd rfl (Or.inl rfl) (pe_revK K (pe_callN C_all_dragged (hr.mono (by decide)) (by rfl) (pa_cons (pe_revK K (pe_slice (sl_listK K) (pv 0) po_none (po_some (pv 6))) (po_some (pe_negK (r := -1) (by decide)))) (pa_cons (pe_revK K (pe_slice (sl_listK K) (pv 5) po_none (po_some (pv 6))) (po_some (pe_negK (r := -1) (by decide)))) (pa_cons (pv 4) pa_nil)))) (po_some (pe_negK (r := -1) (by decide)))))
 (pss_cons (ps_set (i := 8) sc_moved.nd rfl (Or.inl rfl) (pe_callN C_all_dragged (hr.mono (by decide)) (by rfl) (pa_cons (pe_slice (sl_listK K) (pv 0) (po_some (pv 6)) po_none) (pa_cons (pe_slice (sl_listK K) (pv 5) (po_some (pe_op op_addP (pv 6) pe_int)) po_none) (pa_cons (pv 4) pa_nil)))))
 (pss_cons (ps_asg (pe_op op_addP (pe_op op_addP (pv 7) (pe_lst (pa_cons (pv 4) pa_nil))) (pv 8)) (pg_starK K 1 (pgs_cons (pg_name (i := 9) sc_moved.nd rfl (Or.inl rfl)) (pgs_star (pg_name (i := 10) sc_moved.nd rfl (Or.inl rfl)) pgs_nil))))
 (pss_one (ps_ret (pe_tup (pa_cons (pv 9) (pa_cons (pv 10) pa_nil)))))))))), ?_⟩
    dsimp only [tSeq, tAsg, gName, tOp, tUn, tTest, tB, tAnd, tOr, tNot, tAndV, tOrV, tNotV, tIf, tIfS, tRet, tRetN, tDrop, tNext, tCons, tNil, tCB, tCall, tMenu, tComp, iZip2, iEnum, tNoIf, tTru, tJoin, cxOf_K, tLst, tTup, tSl, tPart, tNoPart, tBM, tBM0, tChain, tC, tFor_eq, gTup, gStar, gLst, gCons, gNil, gSub, iList, iRng1, iRng2, iRng3, iTup, iZip3, tWhile, tRev, tRaise, tCallS, tTry, tAug, tPar, tNever, ipI, List.append_nil]
    walk_at "st"
    intro g1 hg1
    walk_at "st"
    refine i_addL (a := g1) (b := b) (xs := [.int h]) (ys := iL ws) upd_same (same_upd hg1 _ _ hB) (szl (by simp [iL]; omega)) (fun lpc hlpc => ?_)
    have s1 : Same H _ := (same_upd (o := .lst [.int h]) hg1).trans (same_upd (o := .lst ([.int h] ++ iL ws)) hlpc)
    have e1 : upd (upd H g1 (.lst [.int h])) lpc (.lst ([.int h] ++ iL ws)) lpc = some (.lst (iL (h :: ws))) := by rw [upd_same]; rfl
    generalize upd (upd H g1 (.lst [.int h])) lpc (.lst ([.int h] ++ iL ws)) = H1 at *
    have hLl : (h :: ws).length = ps.length + 1 := by simp; omega
    generalize h :: ws = L at *
    walk_at "st"
    try rw [hm]
    refine i_slTo (SqL.of (s1 _ _ hA)) (by omega) (fun q1 hq1 => ?_)
    rw [show ((m : Nat) : Int).toNat = m by omega]
    have s2 := same_upd (o := .lst (iL (ps.take m))) hq1
    have e2 : upd H1 q1 (.lst (iL (ps.take m))) q1 = some (.lst (iL (ps.take m))) := upd_same
    generalize upd H1 q1 (.lst (iL (ps.take m))) = H2 at *
    walk_at "st"
    refine i_rev (SqL.of e2) (fun q2 hq2 => ?_)
    have s3 := same_upd (o := .lst (iL (ps.take m).reverse)) hq2
    have e3 : upd H2 q2 (.lst (iL (ps.take m).reverse)) q2 = some (.lst (iL (ps.take m).reverse)) := upd_same
    generalize upd H2 q2 (.lst (iL (ps.take m).reverse)) = H3 at *
    walk_at "st"
    refine i_slTo (SqL.of (s3 _ _ (s2 _ _ e1))) (by omega) (fun q3 hq3 => ?_)
    rw [show ((m : Nat) : Int).toNat = m by omega]
    have s4 := same_upd (o := .lst (iL (L.take m))) hq3
    have e4 : upd H3 q3 (.lst (iL (L.take m))) q3 = some (.lst (iL (L.take m))) := upd_same
    generalize upd H3 q3 (.lst (iL (L.take m))) = H4 at *
    walk_at "st"
    refine i_rev (SqL.of e4) (fun q4 hq4 => ?_)
    have s5 := same_upd (o := .lst (iL (L.take m).reverse)) hq4
    have e5 : upd H4 q4 (.lst (iL (L.take m).reverse)) q4 = some (.lst (iL (L.take m).reverse)) := upd_same
    generalize upd H4 q4 (.lst (iL (L.take m).reverse)) = H5 at *
    walk_at "st"
    refine ⟨q2, q4, _, _, c, rfl, SqL.of (s5 _ _ (s4 _ _ e3)), SqL.of e5, by simp; omega, fun x hx => hp0 x (List.mem_of_mem_take (List.mem_reverse.mp hx)), fun q5 H6 N6 => ?_⟩
    walk_at "st"
    have hAl := gA_len (c := c) hLl hm2
    rw [List.length_reverse] at hAl
    unfold gAll at k
    rw [hmt] at k
    generalize dragAll (ps.take m).reverse (L.take m).reverse c = Ah at *
    refine i_rev (SqL.of N6.at_) (fun q6 hq6 => ?_)
    have s7 := same_upd (o := .lst (iL Ah.reverse)) hq6
    have e7 : upd H6 q6 (.lst (iL Ah.reverse)) q6 = some (.lst (iL Ah.reverse)) := upd_same
    generalize upd H6 q6 (.lst (iL Ah.reverse)) = H7 at *
    have S7 := s2.trans (s3.trans (s4.trans (s5.trans (N6.sm.trans s7))))
    clear s2 s3 s4 s5 N6 s7 e2 e3 e4 e5
    walk_at "st"
    refine i_slFrom (SqL.of (S7 _ _ (s1 _ _ hA))) (by omega) (fun q7 hq7 => ?_)
    rw [show ((m : Nat) : Int).toNat = m by omega]
    have s8 := same_upd (o := .lst (iL (ps.drop m))) hq7
    have e8 : upd H7 q7 (.lst (iL (ps.drop m))) q7 = some (.lst (iL (ps.drop m))) := upd_same
    generalize upd H7 q7 (.lst (iL (ps.drop m))) = H8 at *
    walk_at "st"
    refine i_slFrom (SqL.of (s8 _ _ (S7 _ _ e1))) (by omega) (fun q8 hq8 => ?_)
    rw [show (((m : Nat) : Int) + 1).toNat = m + 1 by omega]
    have s9 := same_upd (o := .lst (iL (L.drop (m + 1)))) hq8
    have e9 : upd H8 q8 (.lst (iL (L.drop (m + 1)))) q8 = some (.lst (iL (L.drop (m + 1)))) := upd_same
    generalize upd H8 q8 (.lst (iL (L.drop (m + 1)))) = H9 at *
    walk_at "st"
    refine ⟨q7, q8, _, _, c, rfl, SqL.of (s9 _ _ e8), SqL.of e9, by simp; omega, fun x hx => hp0 x (List.mem_of_mem_drop hx), fun q9 H10 N10 => ?_⟩
    have hBl := gB_len (c := c) hLl hm2
    generalize dragAll (ps.drop m) (L.drop (m + 1)) c = Be at *
    have S10 := s8.trans (s9.trans N10.sm)
    have e10 := N10.at_
    have f10 := S10 _ _ e7
    have SS := s1.trans (S7.trans S10)
    clear s8 s9 N10 e8 e9 S7 S10 s1
    walk_at "st"
    intro q10 hq10
    walk_at "st"
    refine i_addL (a := q6) (b := q10) (xs := iL Ah.reverse) (ys := [.int c]) (same_upd hq10 _ _ f10) upd_same (szl (by simp [iL]; omega)) (fun q11 hq11 => ?_)
    have s11 := (same_upd (o := .lst [.int c]) hq10).trans (same_upd (o := .lst (iL Ah.reverse ++ [.int c])) hq11)
    have e11 : upd (upd H10 q10 (.lst [.int c])) q11 (.lst (iL Ah.reverse ++ [.int c])) q11 = some (.lst (iL (Ah.reverse ++ [c]))) := by rw [upd_same]; simp [iL]
    generalize upd (upd H10 q10 (.lst [.int c])) q11 (.lst (iL Ah.reverse ++ [.int c])) = H11 at *
    walk_at "st"
    refine i_addL (a := q11) (b := q9) (xs := iL (Ah.reverse ++ [c])) (ys := iL Be) e11 (s11 _ _ e10) (szl (by simp [iL]; omega)) (fun q12 hq12 => ?_)
    have s12 := SS.trans (s11.trans (same_upd (o := .lst (iL (Ah.reverse ++ [c]) ++ iL Be)) hq12))
    have e12 : upd H11 q12 (.lst (iL (Ah.reverse ++ [c]) ++ iL Be)) q12 = some (.lst (iL (Ah.reverse ++ c :: Be))) := by rw [upd_same]; simp [iL]
    generalize upd H11 q12 (.lst (iL (Ah.reverse ++ [c]) ++ iL Be)) = H12 at *
    clear SS s11 e11 e10 f10
    obtain ⟨hd, tl, hG⟩ : ∃ hd tl, Ah.reverse ++ c :: Be = hd :: tl := by
      cases hq : Ah.reverse ++ c :: Be with
      | nil => have := congrArg List.length hq; simp at this
      | cons hd tl => exact ⟨hd, tl, rfl⟩
    rw [hG] at e12
    walk_at "st"
    refine ⟨_, _, rfl, SqL.of e12, by simp [iL], fun lw hlw => ⟨_, _, rfl, _, _, rfl, rfl, ?_⟩⟩
    have s13 := same_upd (o := .lst (iL tl)) hlw
    have e13 : upd H12 lw (.lst (iL tl)) lw = some (.lst (iL tl)) := upd_same
    walk_at "st"
    intro t ht
    have s14 := same_upd (o := .tup [.int hd, .ref lw]) ht
    exact k t lw _ hd tl (s12.trans (s13.trans s14)) ((s12.trans s13).free ht) (s12.free hlw) hG upd_same (s14 _ _ e13)

--SPLIT
def spIsTrain (K : PySem.W.Frag) : Sp := fun vs H Q _ => ∃ (a : Addr) (ps : List Int), vs = [.ref a] ∧ SqL K H a (iL ps) ∧ ∀ b : Bool, (b = true ↔ isTr ps) → Q (.bl b) H
theorem ok_is_train (T : Txt mg) (D : Def K mg "is_train" s_is_train) : Callee P w K mg base "is_train" 1 (spIsTrain K) := by
  refine D.ok sc_is_train bd_is_train (fun vs H Q E h => ?len) (fun f cdv A outer s H vs Q E hr h => ?body)
  case len => obtain ⟨a, ps, rfl, _⟩ := h; rfl
  case body =>
    obtain ⟨a, ps, rfl, hS, k⟩ := h
    refine ⟨_, (pss_one (ps_ret (pe_and (pe_chain op_le op_le pe_int (pe_callB (call_lenK K) (by rfl) T.z_len bt_len (pa_cons (pv 0) pa_nil)) (pe_globI T.g_MOST_PLAYS (by rfl))) (pe_one (pe_cmpR op_ge (pe_callB (call_minK K) (by rfl) T.z_min bt_min (pa_cons (pv 0) pa_nil)) pe_int (nomark _)))))), ?_⟩
    dsimp only [tSeq, tAsg, gName, tOp, tUn, tTest, tB, tAnd, tOr, tNot, tAndV, tOrV, tNotV, tIf, tIfS, tRet, tRetN, tDrop, tNext, tCons, tNil, tCB, tCall, tMenu, tComp, iZip2, iEnum, tNoIf, tTru, tJoin, cxOf_K, tLst, tTup, tSl, tPart, tNoPart, tBM, tBM0, tChain, tC, tFor_eq, gTup, gStar, gLst, gCons, gNil, gSub, iList, iRng1, iRng2, iRng3, iTup, iZip3, tWhile, tRev, tRaise, tCallS, tTry, tAug, tPar, tNever, ipI, List.append_nil]
    walk_at "st"
    refine i_lenI hS ?_
    walk_at "st"
    refine i_if (fun g1 => ?_) (fun g1 => ?_)
    · walk_at "st"
      refine i_if (fun g2 => ?_) (fun g2 => ?_)
      · walk_at "st"
        refine i_minL hS (by omega) (fun m hm hle => ?_)
        walk_at "st"
        refine k _ ⟨fun z => ⟨by omega, by omega, fun p hp => ?_⟩, fun z => ?_⟩
        · have := hle p hp
          have := of_decide_eq_true z
          omega
        · exact decide_eq_true (z.2.2 m hm)
      · exact k _ ⟨fun z => (Bool.noConfusion z), fun z => absurd z.2.1 (by omega)⟩
    · walk_at "st"
      exact k _ ⟨fun z => (Bool.noConfusion z), fun z => absurd z.1 (by omega)⟩

def spKeeps (K : PySem.W.Frag) : Sp := fun vs H Q _ => ∃ (a b : Addr) (ps xs : List Int) (hd : Int), vs = [.ref a, .int hd, .ref b] ∧ SqL K H a (iL ps) ∧ SqL K H b (iL xs) ∧ ∀ (r : Bool) H', (r = true ↔ keeps ps hd xs) → Same H H' → Q (.bl r) H'
theorem keeps_end {ps xs : List Int} {a : Int} : keeps (ps.drop (min ps.length xs.length)) a (xs.drop (min ps.length xs.length)) := by
  by_cases h : ps.length ≤ xs.length
  · rw [Nat.min_eq_left h, List.drop_of_length_le (Nat.le_refl _)]; trivial
  · rw [Nat.min_eq_right (by omega), List.drop_of_length_le (l := xs) (Nat.le_refl _)]
    cases ps.drop xs.length <;> trivial
theorem ok_keeps_plays (T : Txt mg) (D : Def K mg "keeps_plays" s_keeps_plays) : Callee P w K mg base "keeps_plays" 1 (spKeeps K) := by
  refine D.ok sc_keeps_plays bd_keeps_plays (fun vs H Q E h => ?len) (fun f cdv A outer s H vs Q E hr h => ?body)
  case len => obtain ⟨a, b, ps, xs, hd, rfl, _⟩ := h; rfl
  case body =>
    obtain ⟨a, b, ps, xs, hd, rfl, hA, hB, k⟩ := h
    refine ⟨_, (pss_cons (ps_set (i := 3) sc_keeps_plays.nd rfl (Or.inl rfl) (pv 1))
 (pss_cons (ps_for PassesOwn.never rfl (pi_zip2K K (by rfl) T.z_zip (pa_cons (pv 0) (pa_cons (pv 2) pa_nil))) (pg_tupK K 2 (pgs_cons (pg_name (i := 4) sc_keeps_plays.nd rfl (Or.inl rfl)) (pgs_cons (pg_name (i := 5) sc_keeps_plays.nd rfl (Or.inl rfl)) pgs_nil)))
 (pss_cons (ps_if (pt_cmpR op_gt (pe_callB call_absK (by rfl) T.z_abs bt_abs (pa_cons (pe_op op_sub (pv 5) (pv 3)) pa_nil)) (pv 4) (nomark _))
 (pss_one (ps_ret pe_bl))
 pss_nil)
 (pss_one (ps_set (i := 3) sc_keeps_plays.nd rfl (Or.inl rfl) (pv 5)))))
 (pss_one (ps_ret pe_bl)))), ?_⟩
    dsimp only [tSeq, tAsg, gName, tOp, tUn, tTest, tB, tAnd, tOr, tNot, tAndV, tOrV, tNotV, tIf, tIfS, tRet, tRetN, tDrop, tNext, tCons, tNil, tCB, tCall, tMenu, tComp, iZip2, iEnum, tNoIf, tTru, tJoin, cxOf_K, tLst, tTup, tSl, tPart, tNoPart, tBM, tBM0, tChain, tC, tFor_eq, gTup, gStar, gLst, gCons, gNil, gSub, iList, iRng1, iRng2, iRng3, iTup, iZip3, tWhile, tRev, tRaise, tCallS, tTry, tAug, tPar, tNever, ipI, List.append_nil]
    walk_at "st"
    refine ⟨_, _, rfl, ⟨_, hA⟩, ⟨_, hB⟩, lp_zip (xs := iL ps) (ys := iL xs) (fun i σ H2 => ∃ (ah : Int) (u v : Option V), σ = [some (.ref a), some (.int hd), some (.ref b), some (.int ah), u, v] ∧ Same H H2 ∧ (keeps ps hd xs ↔ keeps (ps.drop i) ah (xs.drop i))) ?_ ?_ ?_ ?_⟩
    · exact ⟨hd, _, _, rfl, Same.refl _, Iff.rfl⟩
    · rintro i σ H2 ⟨ah, u, v, rfl, sm, hk⟩
      exact ⟨sm.seq hA, sm.seq hB⟩
    · rintro i x y t σ H2 hx hy ⟨ah, u, v, rfl, sm, hk⟩ ht
      rw [List.getElem?_map] at hx hy
      obtain ⟨p, hp, rfl⟩ := Option.map_eq_some_iff.mp hx
      obtain ⟨q, hq, rfl⟩ := Option.map_eq_some_iff.mp hy
      walk_at "st"
      refine ⟨_, _, rfl, SqT.of upd_same, rfl, _, _, rfl, _, _, rfl, rfl, ?_⟩
      walk_at "st"
      rw [dropc hp, dropc hq] at hk
      refine i_if (fun g => ?_) (fun g => ?_)
      · walk_at "st"
        refine k _ _ ⟨fun z => (Bool.noConfusion z), fun z => ?_⟩ (sm.trans (same_upd ht))
        have := (hk.mp z).1
        split at g <;> omega
      · walk_at "st"
        refine ⟨q, _, _, rfl, sm.trans (same_upd ht), hk.trans ⟨fun z => z.2, fun z => ⟨?_, z⟩⟩⟩
        split at g <;> omega
    · rintro σ H2 ⟨ah, u, v, rfl, sm, hk⟩
      walk_at "st"
      refine k _ _ ⟨fun _ => hk.mpr ?_, fun _ => rfl⟩ sm
      simp only [iL, List.length_map]
      exact keeps_end

def spRefTrainE (K : PySem.W.Frag) (C : Addr) : Sp := fun vs H Q E => ∃ (a : Addr) (ps : List Int), vs = [.ref a] ∧ SqL K H a (iL ps) ∧ (isTr ps → Q .non H) ∧ (¬ isTr ps → E (.ref C) none H)
theorem ok_refuse_no_train (T : Txt mg) (Z : Cls K mg) (D : Def K mg "refuse_no_train" s_refuse_no_train) (C_is_train : Callee P w K mg base "is_train" 1 (spIsTrain K)) : CalleeE P w K mg base "refuse_no_train" 2 (spRefTrainE K Z.c_NoTrain) := by
  refine Def.okE D sc_refuse_no_train bd_refuse_no_train (fun vs H Q E h => ?len) (fun f cdv A outer s H vs Q E hr h => ?body)
  case len => obtain ⟨a, ps, rfl, _⟩ := h; rfl
  case body =>
    obtain ⟨a, ps, rfl, hS, k1, k2⟩ := h
    refine ⟨_, (pss_one (ps_if (pt_not (pt_truthK K (pe_callN C_is_train (hr.mono (by decide)) (by rfl) (pa_cons (pv 0) pa_nil))))
 (pss_one (ps_raise Z.exc_NoTrain PySem.F.excBase_ValueError (by rfl) (pa_cons pe_str pa_nil)))
 pss_nil)), ?_⟩
    dsimp only [tSeq, tAsg, gName, tOp, tUn, tTest, tB, tAnd, tOr, tNot, tAndV, tOrV, tNotV, tIf, tIfS, tRet, tRetN, tDrop, tNext, tCons, tNil, tCB, tCall, tMenu, tComp, iZip2, iEnum, tNoIf, tTru, tJoin, cxOf_K, tLst, tTup, tSl, tPart, tNoPart, tBM, tBM0, tChain, tC, tFor_eq, gTup, gStar, gLst, gCons, gNil, gSub, iList, iRng1, iRng2, iRng3, iTup, iZip3, tWhile, tRev, tRaise, tCallS, tTry, tAug, tPar, tNever, ipI, List.append_nil]
    walk_at "st"
    refine ⟨a, ps, rfl, hS, fun b hb => ?_⟩
    cases b with
    | true =>
      walk_at "st"
      exact k1 (hb.mp rfl)
    | false =>
      walk_at "st"
      exact ⟨by simp, k2 fun z => by have := hb.mpr z; cases this⟩

def spIsStandE (K : PySem.W.Frag) (C : Addr) : Sp := fun vs H Q E => ∃ (a b : Addr) (ps xs : List Int) (hd : Int), vs = [.ref a, .int hd, .ref b] ∧ SqL K H a (iL ps) ∧ SqL K H b (iL xs) ∧ (isTr ps → ∀ (r : Bool) H', (r = true ↔ stand ps hd xs) → Same H H' → Q (.bl r) H') ∧ (¬ isTr ps → E (.ref C) none H)
theorem ok_is_stand (T : Txt mg) (Z : Cls K mg) (D : Def K mg "is_stand" s_is_stand) (C_refuse_no_train : CalleeE P w K mg base "refuse_no_train" 2 (spRefTrainE K Z.c_NoTrain)) (C_keeps_plays : Callee P w K mg base "keeps_plays" 1 (spKeeps K)) : CalleeE P w K mg base "is_stand" 3 (spIsStandE K Z.c_NoTrain) := by
  refine Def.okE D sc_is_stand bd_is_stand (fun vs H Q E h => ?len) (fun f cdv A outer s H vs Q E hr h => ?body)
  case len => obtain ⟨a, b, ps, xs, hd, rfl, _⟩ := h; rfl
  case body =>
    obtain ⟨a, b, ps, xs, hd, rfl, hA, hB, k, k2⟩ := h
    have hu := hr.units
    refine ⟨_, (pss_cons (ps_expr (pe_callE C_refuse_no_train (hr.mono (by decide)) (by rfl) (pa_cons (pv 0) pa_nil)))
 (pss_one (ps_ret (pe_and (pe_cmpR (op_eqK K hu) (pe_callB (call_lenK K) (by rfl) T.z_len bt_len (pa_cons (pv 2) pa_nil)) (pe_callB (call_lenK K) (by rfl) T.z_len bt_len (pa_cons (pv 0) pa_nil)) (nomark _)) (pe_one (pe_callN C_keeps_plays (hr.mono (by decide)) (by rfl) (pa_cons (pv 0) (pa_cons (pv 1) (pa_cons (pv 2) pa_nil))))))))), ?_⟩
    dsimp only [tSeq, tAsg, gName, tOp, tUn, tTest, tB, tAnd, tOr, tNot, tAndV, tOrV, tNotV, tIf, tIfS, tRet, tRetN, tDrop, tNext, tCons, tNil, tCB, tCall, tMenu, tComp, iZip2, iEnum, tNoIf, tTru, tJoin, cxOf_K, tLst, tTup, tSl, tPart, tNoPart, tBM, tBM0, tChain, tC, tFor_eq, gTup, gStar, gLst, gCons, gNil, gSub, iList, iRng1, iRng2, iRng3, iTup, iZip3, tWhile, tRev, tRaise, tCallS, tTry, tAug, tPar, tNever, ipI, List.append_nil]
    walk_at "st"
    refine ⟨a, ps, rfl, hA, fun ht => ?_, k2⟩
    have k := k ht
    walk_at "st"
    refine i_lenI hB ?_
    walk_at "st"
    refine i_lenI hA ?_
    walk_at "st"
    refine i_if (fun g => ?_) (fun g => ?_)
    · walk_at "st"
      exact ⟨a, b, ps, xs, hd, rfl, hA, hB, fun r H' hr' sm => k r H' (hr'.trans ⟨fun z => ⟨by omega, z⟩, fun z => z.2⟩) sm⟩
    · exact k _ _ ⟨fun z => (Bool.noConfusion z), fun z => absurd z.1 (by omega)⟩ (Same.refl _)

def spRefStandE (K : PySem.W.Frag) (CT CS : Addr) : Sp := fun vs H Q E => ∃ (a b : Addr) (ps xs : List Int) (hd : Int), vs = [.ref a, .int hd, .ref b] ∧ SqL K H a (iL ps) ∧ SqL K H b (iL xs) ∧ (isTr ps → stand ps hd xs → ∀ H', Same H H' → Q .non H') ∧ Exs E H CT CS (isTr ps) (stand ps hd xs)
theorem ok_refuse_no_stand (T : Txt mg) (Z : Cls K mg) (D : Def K mg "refuse_no_stand" s_refuse_no_stand) (C_is_stand : CalleeE P w K mg base "is_stand" 3 (spIsStandE K Z.c_NoTrain)) : CalleeE P w K mg base "refuse_no_stand" 4 (spRefStandE K Z.c_NoTrain Z.c_NoStand) := by
  refine Def.okE D sc_refuse_no_stand bd_refuse_no_stand (fun vs H Q E h => ?len) (fun f cdv A outer s H vs Q E hr h => ?body)
  case len => obtain ⟨a, b, ps, xs, hd, rfl, _⟩ := h; rfl
  case body =>
    obtain ⟨a, b, ps, xs, hd, rfl, hA, hB, k, x⟩ := h
    refine ⟨_, (pss_one (ps_if (pt_not (pt_truthK K (pe_callE C_is_stand (hr.mono (by decide)) (by rfl) (pa_cons (pv 0) (pa_cons (pv 1) (pa_cons (pv 2) pa_nil))))))
 (pss_one (ps_raise Z.exc_NoStand PySem.F.excBase_ValueError (by rfl) (pa_cons pe_str pa_nil)))
 pss_nil)), ?_⟩
    dsimp only [tSeq, tAsg, gName, tOp, tUn, tTest, tB, tAnd, tOr, tNot, tAndV, tOrV, tNotV, tIf, tIfS, tRet, tRetN, tDrop, tNext, tCons, tNil, tCB, tCall, tMenu, tComp, iZip2, iEnum, tNoIf, tTru, tJoin, cxOf_K, tLst, tTup, tSl, tPart, tNoPart, tBM, tBM0, tChain, tC, tFor_eq, gTup, gStar, gLst, gCons, gNil, gSub, iList, iRng1, iRng2, iRng3, iTup, iZip3, tWhile, tRev, tRaise, tCallS, tTry, tAug, tPar, tNever, ipI, List.append_nil]
    walk_at "st"
    refine ⟨a, b, ps, xs, hd, rfl, hA, hB, fun ht r H' hr' sm => ?_, fun hn => x.1 hn _ (Same.refl _)⟩
    cases r with
    | true =>
      walk_at "st"
      exact k ht (hr'.mp rfl) H' sm
    | false =>
      walk_at "st"
      exact ⟨by simp, x.2 ht (fun z => by have := hr'.mpr z; cases this) H' sm⟩

--SPLIT
/-- a stand whose list of wheels is new -/
def StNew (H H' : Hp) (t : Addr) (L : List Int) : Prop := ∃ lw h ws, L = h :: ws ∧ H' t = some (.tup [.int h, .ref lw]) ∧ H' lw = some (.lst (iL ws)) ∧ H lw = none
theorem StNew.more {H H' H2 : Hp} {t : Addr} {L : List Int} (h : StNew H H' t L) (s : Same H' H2) : StNew H H2 t L := by
  obtain ⟨lw, x, ws, e, a, b, c⟩ := h
  exact ⟨lw, x, ws, e, s _ _ a, s _ _ b, c⟩
theorem StNew.at {H H' : Hp} {t : Addr} {L : List Int} (h : StNew H H' t L) : StAt H' t L := by
  obtain ⟨lw, x, ws, e, a, b, c⟩ := h
  exact ⟨lw, x, ws, e, a, b⟩
def okGr (n : Nat) (gs : List (Int × Int)) : Prop := ∀ g ∈ gs, -1 ≤ g.1 ∧ g.1 < n
def spGrabsE (CT CS CN : Addr) : Sp := fun vs H Q E => ∃ (a b r : Addr) (ps ws : List Int) (h : Int) (ts : List Addr) (gs : List (Int × Int)), vs = [.ref a, .int h, .ref b, .ref r] ∧ H a = some (.lst (iL ps)) ∧ H b = some (.lst (iL ws)) ∧ H r = some (.lst (ts.map V.ref)) ∧ MsAt H ts gs ∧ gs.length ≤ 1000 ∧
  (isTr ps → stand ps h ws → okGr ps.length gs → ∀ l us H', Same H H' → H l = none → H' l = some (.lst (us.map V.ref)) → Paired (StNew H H') us (gRun ps (h :: ws) gs) → Q (.ref l) H') ∧ Exs E H CT CS (isTr ps) (stand ps h ws) ∧ (isTr ps → stand ps h ws → ¬ okGr ps.length gs → ∀ H', Same H H' → E (.ref CN) none H')
theorem ok_grabs_of (T : Txt mg) (Z : Cls K mg) (D : Def K mg "grabs_of" s_grabs_of) (C_refuse_no_stand : CalleeE P w K mg base "refuse_no_stand" 4 (spRefStandE K Z.c_NoTrain Z.c_NoStand)) (C_refuse_no_piece : CalleeE P w K mg base "refuse_no_piece" 1 (spRefPieceE K Z.c_NoPiece)) (C_moved : Callee P w K mg base "moved" 3 (spMoved K)) : CalleeE P w K mg base "grabs_of" 5 (spGrabsE Z.c_NoTrain Z.c_NoStand Z.c_NoPiece) := by
  refine Def.okE D sc_grabs_of bd_grabs_of (fun vs H Q E h => ?len) (fun f cdv A outer s H vs Q E hr h => ?body)
  case len => obtain ⟨a, b, r, ps, ws, h, ts, gs, rfl, _⟩ := h; rfl
  case body =>
    obtain ⟨a, b, r, ps, ws, h, ts, gs, rfl, hA, hB, hR, hM, hgl, k, x, xn⟩ := h
    have hu := hr.units
    have htl : ts.length = gs.length := hM.length
    refine ⟨_, (pss_cons (ps_expr (pe_callE C_refuse_no_stand (hr.mono (by decide)) (by rfl) (pa_cons (pv 0) (pa_cons (pv 1) (pa_cons (pv 2) pa_nil)))))
 (pss_cons (ps_for PassesOwn.leaving rfl (pi_listK K (pv 3)) (pg_tupK K 2 (pgs_cons (pg_name (i := 4) sc_grabs_of.nd rfl (Or.inl rfl)) (pgs_cons (pg_name (i := 5) sc_grabs_of.nd rfl (Or.inl rfl)) pgs_nil)))
 (pss_one (ps_expr (pe_callE C_refuse_no_piece (hr.mono (by decide)) (by rfl) (pa_cons (pv 0) (pa_cons (pv 4) pa_nil))))))
 (pss_cons (ps_set (i := 6) sc_grabs_of.nd rfl (Or.inl rfl) (pe_lst pa_nil))
 (pss_cons (ps_for PassesOwn.leaving rfl (pi_listK K (pv 3)) (pg_tupK K 2 (pgs_cons (pg_name (i := 4) sc_grabs_of.nd rfl (Or.inl rfl)) (pgs_cons (pg_name (i := 5) sc_grabs_of.nd rfl (Or.inl rfl)) pgs_nil)))
 (pss_cons (ps_asg (pe_callN C_moved (hr.mono (by decide)) (by rfl) (pa_cons (pv 0) (pa_cons (pv 1) (pa_cons (pv 2) (pa_cons (pv 4) (pa_cons (pv 5) pa_nil)))))) (pg_tupK K 2 (pgs_cons (pg_name (i := 1) sc_grabs_of.nd rfl (Or.inl rfl)) (pgs_cons (pg_name (i := 2) sc_grabs_of.nd rfl (Or.inl rfl)) pgs_nil))))
 (pss_one (ps_expr (pe_bmK K PySem.F.plainAttrs_list PySem.F.slot_list_append PySem.F.type_list_append mt_append (pv 6) (pa_cons (pe_tup (pa_cons (pv 1) (pa_cons (pv 2) pa_nil))) pa_nil))))))
 (pss_one (ps_ret (pv 6))))))), ?_⟩
    dsimp only [tSeq, tAsg, gName, tOp, tUn, tTest, tB, tAnd, tOr, tNot, tAndV, tOrV, tNotV, tIf, tIfS, tRet, tRetN, tDrop, tNext, tCons, tNil, tCB, tCall, tMenu, tComp, iZip2, iEnum, tNoIf, tTru, tJoin, cxOf_K, tLst, tTup, tSl, tPart, tNoPart, tBM, tBM0, tChain, tC, tFor_eq, gTup, gStar, gLst, gCons, gNil, gSub, iList, iRng1, iRng2, iRng3, iTup, iZip3, tWhile, tRev, tRaise, tCallS, tTry, tAug, tPar, tNever, ipI, List.append_nil]
    walk_at "st"
    refine ⟨a, b, ps, ws, h, rfl, SqL.of hA, SqL.of hB, fun hT hS H1 s1 => ?_, x⟩
    have k := k hT hS
    have xn := xn hT hS
    clear x
    walk_at "st"
    refine ⟨⟨_, SqL.of (s1 _ _ hR)⟩, lp_list (xs := ts.map V.ref) (fun i σ H2 => ∃ u4 u5 : Option V, σ = [some (.ref a), some (.int h), some (.ref b), some (.ref r), u4, u5, none] ∧ H1 = H2 ∧ okGr ps.length (gs.take i)) ?_ ?_ ?_ ?_⟩
    · exact ⟨_, _, rfl, rfl, fun g hg => by simp at hg⟩
    · rintro i σ H2 _ ⟨u4, u5, rfl, rfl, _⟩
      exact SqL.of (s1 _ _ hR)
    · rintro i y σ H2 hy ⟨u4, u5, rfl, rfl, hok⟩
      rw [List.getElem?_map] at hy
      obtain ⟨t, hti, rfl⟩ := Option.map_eq_some_iff.mp hy
      obtain ⟨g, hgi, hTg⟩ := paired_getL hM hti
      walk_at "st"
      refine ⟨_, _, rfl, SqT.of (s1 _ _ hTg), rfl, _, _, rfl, _, _, rfl, rfl, ?_⟩
      walk_at "st"
      refine ⟨a, ps, g.1, rfl, SqL.of (s1 _ _ hA), fun hg => ?_, fun hn => xn (fun z => hn (z g (List.mem_of_getElem? hgi))) _ s1⟩
      refine ⟨_, _, rfl, rfl, fun g' hg' => ?_⟩
      rw [take_snoc_get hgi] at hg'
      rcases List.mem_append.mp hg' with z | z
      · exact hok g' z
      · simp at z; subst z; exact hg
    rintro σ H2 ⟨u4, u5, rfl, rfl, hok⟩
    rw [List.take_of_length_le (by simp; omega)] at hok
    have k := k hok
    clear xn
    have hp12 := hT.2.1
    walk_at "st"
    intro l hl
    have s2 : Same H _ := s1.trans (same_upd (o := .lst []) hl)
    have e2 : upd H1 l (.lst []) l = some (.lst (([] : List Addr).map V.ref)) := upd_same
    have fl : H l = none := s1.free hl
    generalize upd H1 l (.lst []) = H2 at *
    walk_at "st"
    have nrl : r ≠ l := ne_of_none hR fl
    refine ⟨⟨_, SqL.of (s2 _ _ hR)⟩, lp_list (xs := ts.map V.ref) (fun i σ H3 => ∃ (u4 u5 : Option V) (hc : Int) (bc : Addr) (wc : List Int) (us : List Addr), σ = [some (.ref a), some (.int hc), some (.ref bc), some (.ref r), u4, u5, some (.ref l)] ∧ Same H H3 ∧ H3 l = some (.lst (us.map V.ref)) ∧ us.length = i ∧ bc ≠ l ∧ H3 bc = some (.lst (iL wc)) ∧ hc :: wc = gEnd ps (h :: ws) (gs.take i) ∧ Paired (StNew H2 H3) us (gRun ps (h :: ws) (gs.take i)) ∧ ∀ b o, H2 b = some o → b ≠ l → H3 b = some o) ?_ ?_ ?_ ?_⟩
    · exact ⟨_, _, h, b, ws, [], rfl, s2, e2, rfl, ne_of_none hB fl, s2 _ _ hB, rfl, .nil, fun b o e _ => e⟩
    · rintro i σ H3 _ ⟨u4, u5, hc, bc, wc, us, rfl, s3, _⟩
      exact SqL.of (s3 _ _ hR)
    · rintro i y σ H3 hy ⟨u4, u5, hc, bc, wc, us, rfl, s3, e3, hul, hbl, hbc, hE, hP, kp⟩
      rw [List.getElem?_map] at hy
      obtain ⟨t, hti, rfl⟩ := Option.map_eq_some_iff.mp hy
      obtain ⟨g, hgi, hTg⟩ := paired_getL hM hti
      have hil : i < ts.length := (List.getElem?_eq_some_iff.mp hti).1
      have hg := hok g (List.mem_of_getElem? hgi)
      have hEl : (hc :: wc).length = ps.length + 1 := by
        rw [hE]
        exact gEnd_len (by simp [hS.1]) fun g' hg' => hok g' (List.mem_of_mem_take hg')
      walk_at "st"
      refine ⟨_, _, rfl, SqT.of (s3 _ _ hTg), rfl, _, _, rfl, _, _, rfl, rfl, ?_⟩
      walk_at "st"
      refine ⟨a, bc, ps, wc, hc, g.1, g.2, rfl, s3 _ _ hA, hbc, by simpa using hEl, hp12, hT.2.2, hg.1, hg.2, fun t2 lw H4 hd tl s4 ft flw hG ht2 hlw => ?_⟩
      walk_at "st"
      refine ⟨_, _, rfl, SqT.of ht2, rfl, _, _, rfl, _, _, rfl, rfl, ?_⟩
      walk_at "st"
      refine ⟨.inl ⟨rfl, _, SqL.of (s4 _ _ e3)⟩, ?_⟩
      walk_at "st"
      intro t5 ht5
      have s5 := same_upd (o := .tup [.int hd, .ref lw]) ht5
      have e5 : upd H4 t5 (.tup [.int hd, .ref lw]) t5 = some (.tup [.int hd, .ref lw]) := upd_same
      generalize upd H4 t5 (.tup [.int hd, .ref lw]) = H5 at *
      have e6 := s5 _ _ (s4 _ _ e3)
      walk_at "st"
      refine i_app e6 (szlt (by simp; omega)) ?_
      have nlw : lw ≠ l := fun z => by rw [z, e3] at flw; cases flw
      have ntl : t5 ≠ l := fun z => by rw [z, e6] at e5; cases e5
      have up : ∀ {b : Addr} {o : HO}, H5 b = some o → b ≠ l → upd H5 l (.lst (us.map V.ref ++ [V.ref t5])) b = some o := fun e n => by rw [upd_ne n]; exact e
      have f2 : H2 lw = none := by
        cases hq : H2 lw with
        | none => rfl
        | some o => rw [kp _ _ hq nlw] at flw; cases flw
      have hE2 : hd :: tl = gEnd ps (h :: ws) (gs.take (i + 1)) := by
        rw [take_snoc_get hgi, gEnd_app, ← hE, ← hG]; rfl
      refine ⟨_, _, hd, lw, tl, us ++ [t5], rfl, fun b o e => up (s5 _ _ (s4 _ _ (s3 b o e))) (ne_of_none e fl), by rw [upd_same]; simp, by simp; omega, nlw, up (s5 _ _ hlw) nlw, hE2, ?_, fun b o e n => up (s5 _ _ (s4 _ _ (kp b o e n))) n⟩
      rw [take_snoc_get hgi, gRun_app, ← hE]
      refine Paired.snoc (Paired.mapP hP fun u L hu2 => ?_) ⟨lw, hd, tl, hG, up e5 ntl, up (s5 _ _ hlw) nlw, f2⟩
      obtain ⟨lw', x', ws', q1, q2, q3, q4⟩ := hu2
      refine ⟨lw', x', ws', q1, up (s5 _ _ (s4 _ _ q2)) (fun z => by rw [z, e3] at q2; cases q2), up (s5 _ _ (s4 _ _ q3)) (fun z => ?_), q4⟩
      rw [z, e2] at q4
      cases q4
    · rintro σ H3 ⟨u4, u5, hc, bc, wc, us, rfl, s3, e3, hul, hbl, hbc, hE, hP, kp⟩
      rw [List.take_of_length_le (by simp; omega)] at hP
      walk_at "st"
      refine k l us H3 s3 fl e3 (Paired.mapP hP fun u L hu2 => ?_)
      obtain ⟨lw', x', ws', q1, q2, q3, q4⟩ := hu2
      exact ⟨lw', x', ws', q1, q2, q3, s2.free q4⟩

--SPLIT
def spGrabbedE (CT CS CN : Addr) : Sp := fun vs H Q E => ∃ (a b : Addr) (ps ws : List Int) (h p c : Int), vs = [.ref a, .int h, .ref b, .int p, .int c] ∧ H a = some (.lst (iL ps)) ∧ H b = some (.lst (iL ws)) ∧
  (isTr ps → stand ps h ws → -1 ≤ p ∧ p < ps.length → ∀ t H', Same H H' → StNew H H' t (gAll ps (h :: ws) (p + 1).toNat c) → Q (.ref t) H') ∧ Exs E H CT CS (isTr ps) (stand ps h ws) ∧ (isTr ps → stand ps h ws → ¬ (-1 ≤ p ∧ p < ps.length) → ∀ H', Same H H' → E (.ref CN) none H')
theorem ok_grabbed (T : Txt mg) (Z : Cls K mg) (D : Def K mg "grabbed" s_grabbed) (C_grabs_of : CalleeE P w K mg base "grabs_of" 5 (spGrabsE Z.c_NoTrain Z.c_NoStand Z.c_NoPiece)) : CalleeE P w K mg base "grabbed" 6 (spGrabbedE Z.c_NoTrain Z.c_NoStand Z.c_NoPiece) := by
  refine Def.okE D sc_grabbed bd_grabbed (fun vs H Q E h => ?len) (fun f cdv A outer s H vs Q E hr h => ?body)
  case len => obtain ⟨a, b, ps, ws, h, p, c, rfl, _⟩ := h; rfl
  case body =>
    obtain ⟨a, b, ps, ws, h, p, c, rfl, hA, hB, k, x, xn⟩ := h
    have hu := hr.units
    refine ⟨_, (pss_one (ps_ret (pe_ix (ix_K K) (pe_callE C_grabs_of (hr.mono (by decide)) (by rfl) (pa_cons (pv 0) (pa_cons (pv 1) (pa_cons (pv 2) (pa_cons (pe_lst (pa_cons (pe_tup (pa_cons (pv 3) (pa_cons (pv 4) pa_nil))) pa_nil)) pa_nil))))) pe_int (by exact fun _ _ => rfl)))), ?_⟩
    dsimp only [tSeq, tAsg, gName, tOp, tUn, tTest, tB, tAnd, tOr, tNot, tAndV, tOrV, tNotV, tIf, tIfS, tRet, tRetN, tDrop, tNext, tCons, tNil, tCB, tCall, tMenu, tComp, iZip2, iEnum, tNoIf, tTru, tJoin, cxOf_K, tLst, tTup, tSl, tPart, tNoPart, tBM, tBM0, tChain, tC, tFor_eq, gTup, gStar, gLst, gCons, gNil, gSub, iList, iRng1, iRng2, iRng3, iTup, iZip3, tWhile, tRev, tRaise, tCallS, tTry, tAug, tPar, tNever, ipI, List.append_nil]
    walk_at "st"
    intro t1 ht1
    walk_at "st"
    intro l1 hl1
    have s1 : Same H _ := (same_upd (o := .tup [.int p, .int c]) ht1).trans (same_upd (o := .lst [.ref t1]) hl1)
    have e1 : upd (upd H t1 (.tup [.int p, .int c])) l1 (.lst [.ref t1]) l1 = some (.lst ([t1].map V.ref)) := upd_same
    have f1 : upd (upd H t1 (.tup [.int p, .int c])) l1 (.lst [.ref t1]) t1 = some (.tup [.int p, .int c]) := same_upd hl1 _ _ upd_same
    generalize upd (upd H t1 (.tup [.int p, .int c])) l1 (.lst [.ref t1]) = H1 at *
    have hiff : okGr ps.length [(p, c)] ↔ -1 ≤ p ∧ p < ps.length := ⟨fun z => z (p, c) (by simp), fun z g hg => by simp at hg; subst hg; exact z⟩
    walk_at "st"
    refine ⟨a, b, l1, ps, ws, h, [t1], [(p, c)], rfl, s1 _ _ hA, s1 _ _ hB, e1, .cons f1 .nil, by simp, fun hT hS hok l us H2 s2 fl e2 hP => ?_, x.on s1, fun hT hS hn H2 s2 => xn hT hS (fun z => hn (hiff.mpr z)) H2 (s1.trans s2)⟩
    cases hP with
    | @cons u L us' Ls' hu2 hP2 =>
      cases hP2
      walk_at "st"
      refine i_ixN (SqL.of e2) (i := 0) (by decide) (v := .ref u) rfl ?_
      refine k hT hS (hiff.mp hok) u H2 (s1.trans s2) ?_
      obtain ⟨lw, x', ws', q1, q2, q3, q4⟩ := hu2
      exact ⟨lw, x', ws', q1, q2, q3, s1.free q4⟩

--SPLIT
theorem upd_upd {H : Hp} {p : Addr} {a b : HO} : upd (upd H p a) p b = upd H p b := by
  funext q
  by_cases h : q = p
  · subst h; rw [upd_same, upd_same]
  · rw [upd_ne h, upd_ne h, upd_ne h]
theorem ixN_pos {n : Nat} {k : Int} (h0 : 0 ≤ k) (h1 : k < n) : ixN n k = some k.toNat := by
  unfold ixN
  first | (simp; omega) | (split <;> simp_all <;> omega)
def spLDr : Sp := fun vs H Q _ => ∃ p a x : Int, vs = [.int p, .int a, .int x] ∧ 0 ≤ p ∧ Q (.int (drag p a x)) H
theorem ok_law_dragged (T : Txt mg) (D : Def K mg "_law_dragged" s_law_dragged) : Callee P w K mg base "_law_dragged" 1 spLDr := by
  refine D.ok sc_law_dragged bd_law_dragged (fun vs H Q E h => ?len) (fun f cdv A outer s H vs Q E hr h => ?body)
  case len => obtain ⟨p, a, x, rfl, _⟩ := h; rfl
  case body =>
    obtain ⟨p, a, x, rfl, hp, k⟩ := h
    refine ⟨_, (pss_one (ps_ret (pe_callB (call_maxK K) (by rfl) T.z_max bt_max (pa_cons (pe_op op_sub (pv 1) (pv 0)) (pa_cons (pe_callB (call_minK K) (by rfl) T.z_min bt_min (pa_cons (pe_op op_addP (pv 1) (pv 0)) (pa_cons (pv 2) pa_nil))) pa_nil))))), ?_⟩
    dsimp only [tSeq, tAsg, gName, tOp, tUn, tTest, tB, tAnd, tOr, tNot, tAndV, tOrV, tNotV, tIf, tIfS, tRet, tRetN, tDrop, tNext, tCons, tNil, tCB, tCall, tMenu, tComp, iZip2, iEnum, tNoIf, tTru, tJoin, cxOf_K, tLst, tTup, tSl, tPart, tNoPart, tBM, tBM0, tChain, tC, tFor_eq, gTup, gStar, gLst, gCons, gNil, gSub, iList, iRng1, iRng2, iRng3, iTup, iZip3, tWhile, tRev, tRaise, tCallS, tTry, tAug, tPar, tNever, ipI, List.append_nil]
    walk_at "st"
    refine i_min2 (fun mn hmn => ?_)
    walk_at "st"
    refine i_max2 (fun mx hmx => ?_)
    rw [show mx = drag p a x by unfold drag; omega]
    exact k
def spBehind : Sp := fun vs H Q _ => ∃ (a b : Addr) (ps ws : List Int) (h p c : Int), vs = [.ref a, .int h, .ref b, .int p, .int c] ∧ H a = some (.lst (iL ps)) ∧ H b = some (.lst (iL ws)) ∧ ws.length = ps.length ∧ ps.length ≤ 12 ∧ (∀ x ∈ ps, 0 ≤ x) ∧ -1 ≤ p ∧ p < ps.length ∧
  ∀ t H', Same H H' → StNew H H' t (gAll ps (h :: ws) (p + 1).toNat c) → Q (.ref t) H'
theorem ok_law_a_behind (T : Txt mg) (D : Def K mg "_law_a_behind" s_law_a_behind) (C_law_dragged : Callee P w K mg base "_law_dragged" 1 spLDr) : Callee P w K mg base "_law_a_behind" 2 spBehind := by
  refine D.ok sc_law_a_behind bd_law_a_behind (fun vs H Q E h => ?len) (fun f cdv A outer s H vs Q E hr h => ?body)
  case len => obtain ⟨a, b, ps, ws, h, p, c, rfl, _⟩ := h; rfl
  case body =>
    obtain ⟨a, b, ps, ws, h, p, c, rfl, hA, hB, hwl, hpl, hp0, hp1, hp2, k⟩ := h
    have hu := hr.units
    obtain ⟨m, hm⟩ : ∃ m : Nat, p + 1 = (m : Int) := ⟨(p + 1).toNat, by omega⟩
    have hmt : (p + 1).toNat = m := by omega
    have hm2 : m ≤ ps.length := by omega
    refine ⟨_, (pss_cons (ps_set (i := 5) sc_law_a_behind.nd rfl (Or.inl rfl) (pe_op op_addP (pe_lst (pa_cons (pv 1) pa_nil)) (pv 2)))
 (pss_cons (ps_set (i := 6) sc_law_a_behind.nd rfl (Or.inl rfl) (pe_op op_addP (pv 3) pe_int))
 (pss_cons (ps_set (i := 7) sc_law_a_behind.nd rfl (Or.inl rfl) (pe_callTy (call_listK K) (by rfl) T.z_list bt_list (pa_cons (pv 5) pa_nil)))
 (pss_cons (ps_asg (pv 4) (pg_sub (pv 7) (pv 6) set_list))
 (pss_cons (ps_for PassesOwn.never rfl (pi_range2 (by rfl) T.z_range (pa_cons (pe_op op_addP (pv 6) pe_int) (pa_cons (pe_callB (call_lenK K) (by rfl) T.z_len bt_len (pa_cons (pv 5) pa_nil)) pa_nil))) (pg_name (i := 8) sc_law_a_behind.nd rfl (Or.inl rfl))
 (pss_one (ps_asg (pe_callN C_law_dragged (hr.mono (by decide)) (by rfl) (pa_cons (pe_ix (ix_K K) (pv 0) (pe_op op_sub (pv 8) pe_int) (by exact fun _ _ => rfl)) (pa_cons (pe_ix (ix_K K) (pv 7) (pe_op op_sub (pv 8) pe_int) (by exact fun _ _ => rfl)) (pa_cons (pe_ix (ix_K K) (pv 5) (pv 8) (by exact fun _ _ => rfl)) pa_nil)))) (pg_sub (pv 7) (pv 8) set_list))))
 (pss_cons (ps_for PassesOwn.never rfl (pi_range3 (by rfl) T.z_range (pa_cons (pe_op op_sub (pv 6) pe_int) (pa_cons (pe_negK (r := -1) (by decide)) (pa_cons (pe_negK (r := -1) (by decide)) pa_nil)))) (pg_name (i := 8) sc_law_a_behind.nd rfl (Or.inl rfl))
 (pss_one (ps_asg (pe_callN C_law_dragged (hr.mono (by decide)) (by rfl) (pa_cons (pe_ix (ix_K K) (pv 0) (pv 8) (by exact fun _ _ => rfl)) (pa_cons (pe_ix (ix_K K) (pv 7) (pe_op op_addP (pv 8) pe_int) (by exact fun _ _ => rfl)) (pa_cons (pe_ix (ix_K K) (pv 5) (pv 8) (by exact fun _ _ => rfl)) pa_nil)))) (pg_sub (pv 7) (pv 8) set_list))))
 (pss_one (ps_ret (pe_tup (pa_cons (pe_ix (ix_K K) (pv 7) pe_int (by exact fun _ _ => rfl)) (pa_cons (pe_slice (sl_listK K) (pv 7) (po_some pe_int) po_none) pa_nil))))))))))), ?_⟩
    dsimp only [tSeq, tAsg, gName, tOp, tUn, tTest, tB, tAnd, tOr, tNot, tAndV, tOrV, tNotV, tIf, tIfS, tRet, tRetN, tDrop, tNext, tCons, tNil, tCB, tCall, tMenu, tComp, iZip2, iEnum, tNoIf, tTru, tJoin, cxOf_K, tLst, tTup, tSl, tPart, tNoPart, tBM, tBM0, tChain, tC, tFor_eq, gTup, gStar, gLst, gCons, gNil, gSub, iList, iRng1, iRng2, iRng3, iTup, iZip3, tWhile, tRev, tRaise, tCallS, tTry, tAug, tPar, tNever, ipI, List.append_nil]
    walk_at "st"
    intro g1 hg1
    walk_at "st"
    refine i_addL (a := g1) (b := b) (xs := [.int h]) (ys := iL ws) upd_same (same_upd hg1 _ _ hB) (szl (by simp [iL]; omega)) (fun ll hll => ?_)
    have s1 : Same H _ := (same_upd (o := .lst [.int h]) hg1).trans (same_upd (o := .lst ([.int h] ++ iL ws)) hll)
    have e1 : upd (upd H g1 (.lst [.int h])) ll (.lst ([.int h] ++ iL ws)) ll = some (.lst (iL (h :: ws))) := by rw [upd_same]; rfl
    generalize upd (upd H g1 (.lst [.int h])) ll (.lst ([.int h] ++ iL ws)) = H1 at *
    have hLl : (h :: ws).length = ps.length + 1 := by simp; omega
    generalize h :: ws = L at *
    have hGl := gAll_len (c := c) hLl hm2
    have hGat := gAll_at (c := c) hLl hm2
    have hGup := fun {k : Nat} (hk : m < k) {p x y : Int} => gAll_up (c := c) hLl hm2 hk (p := p) (x := x) (y := y)
    have hGdn := fun {k : Nat} (hk : k < m) {p x y : Int} => gAll_down (c := c) hLl hm2 hk (p := p) (x := x) (y := y)
    rw [hmt] at k
    generalize gAll ps L m c = G at *
    walk_at "st"
    try rw [hm]
    refine i_listL (SqL.of e1) (fun lf hlf => ?_)
    have s2 := same_upd (o := .lst (iL L)) hlf
    have e2 : upd H1 lf (.lst (iL L)) lf = some (.lst (iL L)) := upd_same
    have flf : H lf = none := s1.free hlf
    have nll : ll ≠ lf := ne_of_none e1 hlf
    generalize upd H1 lf (.lst (iL L)) = H2 at *
    walk_at "st"
    refine ⟨lf, _, _, m, rfl, rfl, e2, by rw [ixN_pos (by omega) (by simp [iL]; omega)]; simp, ?_⟩
    have kA : ∀ {xs : List V} {b : Addr} {o : HO}, H2 b = some o → b ≠ lf → upd H2 lf (.lst xs) b = some o := fun e n => by rw [upd_ne n]; exact e
    have nal : a ≠ lf := ne_of_none (s1 _ _ hA) hlf
    walk_at "st"
    refine i_lenI (SqL.of (kA (s2 _ _ e1) nll)) ?_
    walk_at "st"
    have eset : ∀ (F : List Int) (i : Nat) (v : Int), (iL F).set i (.int v) = iL (F.set i v) := fun F i v => by simp [iL, List.map_set]
    rw [eset]
    refine ⟨_, _, rfl, ⟨by omega, by omega, by omega, by omega⟩, lp_range (fun j σ H4 => ∃ (u8 : Option V) (F : List Int), σ = [some (.ref a), some (.int h), some (.ref b), some (.int p), some (.int c), some (.ref ll), some (.int m), some (.ref lf), u8] ∧ H4 = upd H2 lf (.lst (iL F)) ∧ F.length = L.length ∧ ∀ i, F[i]? = if m ≤ i ∧ i ≤ m + j then G[i]? else L[i]?) ?_ ?_ ?_⟩
    · refine ⟨_, L.set m c, rfl, rfl, by simp, fun i => ?_⟩
      rw [List.getElem?_set]
      by_cases e : m = i
      · subst e
        rw [if_pos rfl, if_pos (by omega), if_pos (by omega), hGat]
      · rw [if_neg e, if_neg (by omega)]
    · rintro j σ H4 hj ⟨u8, F, rfl, rfl, hFl, hF⟩
      have hj2 : m + 1 + j < L.length := by omega
      have gp : ps[m + j]? = some (ps[m + j]'(by omega)) := List.getElem?_eq_getElem _
      generalize hpv : ps[m + j]'(by omega) = pv at gp
      have gx : L[m + 1 + j]? = some (L[m + 1 + j]'hj2) := List.getElem?_eq_getElem _
      generalize hxv : L[m + 1 + j]'hj2 = xv at gx
      have gy : G[m + j]? = some (G[m + j]'(by omega)) := List.getElem?_eq_getElem _
      generalize hyv : G[m + j]'(by omega) = yv at gy
      have gF : F[m + j]? = some yv := by rw [hF, if_pos (by omega)]; exact gy
      have gz := hGup (k := m + 1 + j) (by omega) (p := pv) (x := xv) (y := yv) (by rw [show m + 1 + j - 1 = m + j by omega]; exact gp) gx (by rw [show m + 1 + j - 1 = m + j by omega]; exact gy)
      walk_at "st"
      refine i_ixN (SqL.of (kA (s2 _ _ (s1 _ _ hA)) nal)) (by omega) (v := .int pv) (by rw [List.getElem?_map, show ((m : Int) + 1 + (j : Int) - 1).toNat = m + j by omega, gp]; rfl) ?_
      walk_at "st"
      refine i_ixN (SqL.of upd_same) (by omega) (v := .int yv) (by rw [List.getElem?_map, show ((m : Int) + 1 + (j : Int) - 1).toNat = m + j by omega, gF]; rfl) ?_
      walk_at "st"
      refine i_ixN (SqL.of (kA (s2 _ _ e1) nll)) (by omega) (v := .int xv) (by rw [List.getElem?_map, show ((m : Int) + 1 + (j : Int)).toNat = m + 1 + j by omega, gx]; rfl) ?_
      walk_at "st"
      refine ⟨pv, yv, xv, rfl, hp0 pv (List.mem_of_getElem? gp), ?_⟩
      walk_at "st"
      refine ⟨lf, _, _, m + 1 + j, rfl, rfl, upd_same, by rw [ixN_pos (by omega) (by simp [iL]; omega)]; exact congrArg some (by omega), ?_⟩
      rw [eset, upd_upd]
      refine ⟨_, F.set (m + 1 + j) (drag pv yv xv), rfl, rfl, by simpa using hFl, fun i => ?_⟩
      rw [List.getElem?_set]
      by_cases e : m + 1 + j = i
      · subst e
        rw [if_pos rfl, if_pos (by omega), if_pos (by omega), gz]
      · rw [if_neg e, hF]
        by_cases q : m ≤ i ∧ i ≤ m + j
        · rw [if_pos q, if_pos (by omega)]
        · rw [if_neg q, if_neg (by omega)]
    rintro σ H4 ⟨u8, F, rfl, rfl, hFl, hF⟩
    walk_at "st"
    refine ⟨_, _, rfl, ⟨by omega, by omega, by omega, by omega⟩, lp_down (fun j σ H4 => ∃ (u8 : Option V) (F : List Int), σ = [some (.ref a), some (.int h), some (.ref b), some (.int p), some (.int c), some (.ref ll), some (.int m), some (.ref lf), u8] ∧ H4 = upd H2 lf (.lst (iL F)) ∧ F.length = L.length ∧ ∀ i, F[i]? = if m - j ≤ i then G[i]? else L[i]?) ?_ ?_ ?_⟩
    · refine ⟨_, F, rfl, rfl, hFl, fun i => ?_⟩
      rw [hF]
      by_cases q : m ≤ i
      · rw [if_pos (show m - 0 ≤ i by omega)]
        by_cases q2 : i < L.length
        · rw [if_pos (by omega)]
        · rw [List.getElem?_eq_none (by omega), List.getElem?_eq_none (by omega)]
          simp
      · rw [if_neg (by omega), if_neg (by omega)]
    · rintro j σ H4 hj ⟨u8, F, rfl, rfl, hFl, hF⟩
      have hj2 : j < m := by omega
      obtain ⟨kk, hkk⟩ : ∃ kk, m = kk + 1 + j := ⟨m - 1 - j, by omega⟩
      have hix : (m : Int) - 1 - (j : Int) = (kk : Int) := by omega
      have gp : ps[kk]? = some (ps[kk]'(by omega)) := List.getElem?_eq_getElem _
      generalize ps[kk]'(by omega) = pv at gp
      have gx : L[kk]? = some (L[kk]'(by omega)) := List.getElem?_eq_getElem _
      generalize L[kk]'(by omega) = xv at gx
      have gy : G[kk + 1]? = some (G[kk + 1]'(by omega)) := List.getElem?_eq_getElem _
      generalize G[kk + 1]'(by omega) = yv at gy
      have gF : F[kk + 1]? = some yv := by rw [hF, if_pos (by omega)]; exact gy
      have gz := hGdn (k := kk) (by omega) gp gx gy
      walk_at "st"
      try rw [hix]
      refine i_ixN (SqL.of (kA (s2 _ _ (s1 _ _ hA)) nal)) (by omega) (v := .int pv) (by rw [List.getElem?_map, show ((kk : Nat) : Int).toNat = kk by omega, gp]; rfl) ?_
      walk_at "st"
      refine i_ixN (SqL.of upd_same) (by omega) (v := .int yv) (by rw [List.getElem?_map, show (((kk : Nat) : Int) + 1).toNat = kk + 1 by omega, gF]; rfl) ?_
      walk_at "st"
      refine i_ixN (SqL.of (kA (s2 _ _ e1) nll)) (by omega) (v := .int xv) (by rw [List.getElem?_map, show ((kk : Nat) : Int).toNat = kk by omega, gx]; rfl) ?_
      walk_at "st"
      refine ⟨pv, yv, xv, rfl, hp0 pv (List.mem_of_getElem? gp), ?_⟩
      walk_at "st"
      refine ⟨lf, _, _, kk, rfl, rfl, upd_same, by rw [ixN_pos (by omega) (by simp [iL]; omega)]; exact congrArg some (by omega), ?_⟩
      rw [eset, upd_upd]
      refine ⟨_, F.set kk (drag pv yv xv), rfl, rfl, by simpa using hFl, fun i => ?_⟩
      rw [List.getElem?_set]
      by_cases e : kk = i
      · subst e
        rw [if_pos rfl, if_pos (by omega), if_pos (by omega), gz]
      · rw [if_neg e, hF]
        by_cases q : m - j ≤ i
        · rw [if_pos q, if_pos (by omega)]
        · rw [if_neg q, if_neg (by omega)]
    rintro σ H4 ⟨u8, F, rfl, rfl, hFl, hF⟩
    have hFG : F = G := List.ext_getElem? fun i => by rw [hF, if_pos (by omega)]
    subst hFG
    obtain ⟨hd, tl, rfl⟩ : ∃ hd tl, F = hd :: tl := by
      cases F with
      | nil => simp at hFl; omega
      | cons hd tl => exact ⟨hd, tl, rfl⟩
    have S4 : Same H (upd H2 lf (.lst (iL (hd :: tl)))) := fun b o e => kA (s2 _ _ (s1 b o e)) (ne_of_none e flf)
    have e4 : upd H2 lf (.lst (iL (hd :: tl))) lf = some (.lst (iL (hd :: tl))) := upd_same
    generalize upd H2 lf (.lst (iL (hd :: tl))) = H4 at *
    walk_at "st"
    refine i_ixN (SqL.of e4) (i := 0) (by decide) (v := .int hd) rfl ?_
    walk_at "st"
    refine i_slFrom (SqL.of e4) (by decide) (fun lw hlw => ?_)
    walk_at "st"
    intro t ht
    have s5 := same_upd (o := .lst (iL ((hd :: tl).drop (1 : Int).toNat))) hlw
    have s6 := same_upd (o := .tup [.int hd, .ref lw]) ht
    exact k t _ (S4.trans (s5.trans s6)) ⟨lw, hd, tl, rfl, upd_same, s6 _ _ upd_same, S4.free hlw⟩

--SPLIT
theorem kin_G (Z : Cls K mg) : KinF Z Z.c_NoPiece false false false false false false false false false true false false := ⟨Z.isi_NoPiece, Z.k_NoPiece_NoTrain, Z.k_NoPiece_NoStand, Z.k_NoPiece_NoPaper, Z.k_NoPiece_NoBox, Z.k_NoPiece_NoSwitch, Z.k_NoPiece_NoPlace, Z.k_NoPiece_NoTable, Z.k_NoPiece_NoText, Z.k_NoPiece_NoRow, Z.k_NoPiece_NoPiece, Z.k_NoPiece_NothingLeft, Z.k_NoPiece_TooMany, Z.k_NoPiece_ValueError⟩
theorem due_G : dueX "NoPiece" = [false, false, false, false, false, false, false, false, false, true, false, false, true] := by decide +kernel
def spGTold : Sp := fun vs H Q _ => ∃ (a b r : Addr) (ps ws : List Int) (h : Int), vs = [.ref a, .int h, .ref b, .ref r] ∧ H a = some (.lst (iL ps)) ∧ H b = some (.lst (iL ws)) ∧ isTr ps ∧ stand ps h ws ∧
  ((∃ p c : Int, H r = some (.tup [.int p, .int c]) ∧ (-1 ≤ p ∧ p < ps.length → ∀ t u lk H', Same H H' → H' t = some (.tup [.ref u, .ref lk]) → StNew H H' u (gAll ps (h :: ws) (p + 1).toNat c) → H' lk = some (.lst (bL [])) → Q (.ref t) H') ∧
     (¬ (-1 ≤ p ∧ p < ps.length) → ∀ t lk H', Same H H' → H' t = some (.tup [.non, .ref lk]) → H' lk = some (.lst (bL (dueX "NoPiece"))) → Q (.ref t) H')) ∨
   (∃ (ts : List Addr) (gs : List (Int × Int)), H r = some (.lst (ts.map V.ref)) ∧ MsAt H ts gs ∧ gs.length ≤ 1000 ∧ (okGr ps.length gs → ∀ t l us lk H', Same H H' → H' t = some (.tup [.ref l, .ref lk]) → H' l = some (.lst (us.map V.ref)) → Paired (StNew H H') us (gRun ps (h :: ws) gs) → H' lk = some (.lst (bL [])) → Q (.ref t) H') ∧
     (¬ okGr ps.length gs → ∀ t lk H', Same H H' → H' t = some (.tup [.non, .ref lk]) → H' lk = some (.lst (bL (dueX "NoPiece"))) → Q (.ref t) H')))
theorem StNew.old {H H1 H' : Hp} {t : Addr} {L : List Int} (h : StNew H1 H' t L) (s : Same H H1) : StNew H H' t L := by
  obtain ⟨lw, x, ws, e, a, b, c⟩ := h
  exact ⟨lw, x, ws, e, a, b, s.free c⟩
theorem ok_law_told (T : Txt mg) (Z : Cls K mg) (D : Def K mg "_law_told" s_law_told) (C_grabbed : CalleeE P w K mg base "grabbed" 6 (spGrabbedE Z.c_NoTrain Z.c_NoStand Z.c_NoPiece)) (C_grabs_of : CalleeE P w K mg base "grabs_of" 5 (spGrabsE Z.c_NoTrain Z.c_NoStand Z.c_NoPiece)) (C_law_a_kin : CalleeN P w K mg base "_law_a_kin" 1 (spKinG Z)) : Callee P w K mg base "_law_told" 7 spGTold := by
  refine D.ok sc_law_told bd_law_told (fun vs H Q E h => ?len) (fun f cdv A outer s H vs Q E hr h => ?body)
  case len => obtain ⟨a, b, r, ps, ws, h, rfl, _⟩ := h; rfl
  case body =>
    obtain ⟨a, b, r, ps, ws, h, rfl, hA, hB, hT, hS, hcase⟩ := h
    have hu := hr.units
    refine ⟨_, (pss_cons (ps_set (i := 4) sc_law_told.nd rfl (Or.inl rfl) pe_non)
 (pss_cons (ps_set (i := 5) sc_law_told.nd rfl (Or.inl rfl) (pe_lst pa_nil))
 (pss_join (ps_try (TC := Z.c_TrainError) (j := 6) rfl rfl rfl Z.m_TrainError (by rfl) sc_law_told.nd rfl rfl rfl (fun pins ξ Ex hp => (pss_one (ps_if (pt_truthK K (pe_callB (call_isinstanceK K) (by rfl) T.z_isinstance bt_isinstance (pa_cons (pv 3) (pa_cons (pe_bltn (by rfl) T.z_tuple bt_tuple (show RelV (.ty "tuple") _ from rfl)) pa_nil))))
 (pss_one (ps_set (i := 4) sc_law_told.nd rfl (Or.inl rfl) (pe_callS C_grabbed (hr.mono (by decide)) (by rfl) hp (pa_cons (pv 0) (pa_cons (pv 1) (pa_cons (pv 2) (pa_cons (pe_ix (ix_K K) (pv 3) pe_int (by exact fun _ _ => rfl)) (pa_cons (pe_ix (ix_K K) (pv 3) pe_int (by exact fun _ _ => rfl)) pa_nil))))))))
 (pss_one (ps_set (i := 4) sc_law_told.nd rfl (Or.inl rfl) (pe_callS C_grabs_of (hr.mono (by decide)) (by rfl) hp (pa_cons (pv 0) (pa_cons (pv 1) (pa_cons (pv 2) (pa_cons (pv 3) pa_nil)))))))))) (fun pins e => (pss_one (ps_set (i := 5) sc_law_told.nd rfl (Or.inl rfl) (pe_callC C_law_a_kin ((hr.mono (by decide)).noted _) (by rfl) (pa_cons (pv 6) pa_nil))))))
 (pss_one (ps_ret (pe_tup (pa_cons (pv 4) (pa_cons (pv 5) pa_nil)))))))), ?_⟩
    dsimp only [tSeq, tAsg, gName, tOp, tUn, tTest, tB, tAnd, tOr, tNot, tAndV, tOrV, tNotV, tIf, tIfS, tRet, tRetN, tDrop, tNext, tCons, tNil, tCB, tCall, tMenu, tComp, iZip2, iEnum, tNoIf, tTru, tJoin, cxOf_K, tLst, tTup, tSl, tPart, tNoPart, tBM, tBM0, tChain, tC, tFor_eq, gTup, gStar, gLst, gCons, gNil, gSub, iList, iRng1, iRng2, iRng3, iTup, iZip3, tWhile, tRev, tRaise, tCallS, tTry, tAug, tPar, tNever, ipI, List.append_nil]
    walk_at "st"
    intro l1 h1
    have s1 : Same H _ := same_upd (o := .lst []) h1
    have e1 : upd H l1 (.lst []) l1 = some (.lst []) := upd_same
    generalize upd H l1 (.lst []) = H1 at *
    walk_at "st"
    refine ⟨fun σ H8 => ∃ (v : V) (lk : Addr) (u : Option V), σ = [some (.ref a), some (.int h), some (.ref b), some (.ref r), some v, some (.ref lk), u] ∧ ∀ t, H8 t = none → Q (.ref t) (upd H8 t (.tup [v, .ref lk])), ?_, ?_⟩
    · walk_at "st"
      rcases hcase with ⟨p, c, hR, k1, k2⟩ | ⟨ts, gs, hR, hM, hgl, k1, k2⟩
      · refine i_isiTT (s1 _ _ hR) ?_
        walk_at "st"
        refine i_ixT (SqT.of (s1 _ _ hR)) (by decide) (v := .int p) rfl ?_
        walk_at "st"
        refine i_ixT (SqT.of (s1 _ _ hR)) (by decide) (v := .int c) rfl ?_
        walk_at "st"
        refine ⟨a, b, ps, ws, h, p, c, rfl, s1 _ _ hA, s1 _ _ hB, fun _ _ hok u H2 s2 hN => ?_, ⟨fun z => absurd hT z, fun _ z => absurd hS z⟩, fun _ _ hn H2 s2 => ?_⟩
        · walk_at "st"
          refine ⟨_, l1, _, rfl, fun t ht => ?_⟩
          have s3 := same_upd (o := .tup [.ref u, .ref l1]) ht
          exact k1 hok t u l1 _ (s1.trans (s2.trans s3)) upd_same ((hN.more s3).old s1) (s3 _ _ (s2 _ _ e1))
        · refine ⟨Z.e_NoPiece, fun e he => ?_⟩
          walk_at "st"
          refine ⟨e, _, _, _, _, _, _, _, _, _, _, _, _, _, rfl, upd_same, kin_G Z, fun lk H9 s9 hk => ?_⟩
          refine ⟨_, lk, _, rfl, fun t ht => ?_⟩
          exact k2 hn t lk _ ((s1.trans s2).trans ((same_upd he).trans (s9.trans (same_upd ht)))) upd_same (same_upd ht _ _ (by rw [hk, due_G]))
      · refine i_isiLT (s1 _ _ hR) ?_
        walk_at "st"
        refine ⟨a, b, r, ps, ws, h, ts, gs, rfl, s1 _ _ hA, s1 _ _ hB, s1 _ _ hR, hM.more s1, hgl, fun _ _ hok l us H2 s2 _ e2 hP => ?_, ⟨fun z => absurd hT z, fun _ z => absurd hS z⟩, fun _ _ hn H2 s2 => ?_⟩
        · walk_at "st"
          refine ⟨_, l1, _, rfl, fun t ht => ?_⟩
          have s3 := same_upd (o := .tup [.ref l, .ref l1]) ht
          exact k1 hok t l us l1 _ (s1.trans (s2.trans s3)) upd_same (s3 _ _ e2) (Paired.mapP hP fun _ _ z => (z.more s3).old s1) (s3 _ _ (s2 _ _ e1))
        · refine ⟨Z.e_NoPiece, fun e he => ?_⟩
          walk_at "st"
          refine ⟨e, _, _, _, _, _, _, _, _, _, _, _, _, _, rfl, upd_same, kin_G Z, fun lk H9 s9 hk => ?_⟩
          refine ⟨_, lk, _, rfl, fun t ht => ?_⟩
          exact k2 hn t lk _ ((s1.trans s2).trans ((same_upd he).trans (s9.trans (same_upd ht)))) upd_same (same_upd ht _ _ (by rw [hk, due_G]))
    rintro σ H8 ⟨v, lk, u, rfl, q⟩
    walk_at "st"
    exact q

--SPLIT
def spTrain (K : PySem.W.Frag) : Sp := fun vs H Q _ => ∃ (a : Addr) (ns : List Int), vs = [.ref a] ∧ SqL K H a (iL ns) ∧
  ∀ t lp lw ps ws hd H', H t = none → NewI H H' lp ps → NewI H H' lw ws → lp ≠ lw → H' t = some (.tup [.ref lp, .int hd, .ref lw]) → isTr ps → stand ps hd ws → Q (.ref t) H'
theorem ok_law_train (T : Txt mg) (D : Def K mg "_law_train" s_law_train) (C_law_draws : Callee P w K mg base "_law_draws" 1 spDraws) (C_law_cell_at : Callee P w K mg base "_law_cell_at" 1 (spCellAt K)) : Callee P w K mg base "_law_train" 2 (spTrain K) := by
  refine D.ok sc_law_train bd_law_train (fun vs H Q E h => ?len) (fun f cdv A outer s H vs Q E hr h => ?body)
  case len => obtain ⟨a, ns, rfl, _⟩ := h; rfl
  case body =>
    obtain ⟨a, ns, rfl, hS, k⟩ := h
    refine ⟨_, (pss_cons (ps_set (i := 1) sc_law_train.nd rfl (Or.inl rfl) (pe_callN C_law_draws (hr.mono (by decide)) (by rfl) (pa_cons (pe_callN C_law_cell_at (hr.mono (by decide)) (by rfl) (pa_cons (pv 0) (pa_cons pe_int pa_nil))) (pa_cons pe_int (pa_cons pe_int pa_nil)))))
 (pss_cons (ps_set (i := 2) sc_law_train.nd rfl (Or.inl rfl) (pe_menu (pa_cons (pe_op op_addP pe_int (pe_op op_mod (pe_ix (ix_K K) (pv 1) pe_int (by exact fun _ _ => rfl)) pe_int)) (pa_cons (pe_op op_addP pe_int (pe_op op_mod (pe_ix (ix_K K) (pv 1) pe_int (by exact fun _ _ => rfl)) pe_int)) (pa_cons pe_int pa_nil))) (pe_op op_mod (pe_ix (ix_K K) (pv 1) pe_int (by exact fun _ _ => rfl)) pe_int) (by exact fun _ _ => rfl)))
 (pss_cons (ps_set (i := 3) sc_law_train.nd rfl (Or.inl rfl) (pe_menu (pa_cons pe_int (pa_cons pe_int (pa_cons (pe_powK (r := 100000000000000000000) (by decide)) (pa_cons pe_int pa_nil)))) (pe_op op_mod (pe_ix (ix_K K) (pv 1) pe_int (by exact fun _ _ => rfl)) pe_int) (by exact fun _ _ => rfl)))
 (pss_cons (ps_set (i := 4) sc_law_train.nd rfl (Or.inl rfl) (pe_callN C_law_draws (hr.mono (by decide)) (by rfl) (pa_cons (pe_callN C_law_cell_at (hr.mono (by decide)) (by rfl) (pa_cons (pv 0) (pa_cons pe_int pa_nil))) (pa_cons pe_int (pa_cons (pe_powK (r := 1000000000) (by decide)) pa_nil)))))
 (pss_cons (ps_set (i := 5) sc_law_train.nd rfl (Or.inl rfl) (pe_lst pa_nil))
 (pss_cons (ps_set (i := 6) sc_law_train.nd rfl (Or.inl rfl) (pe_lst pa_nil))
 (pss_cons (ps_set (i := 7) sc_law_train.nd rfl (Or.inl rfl) (pe_op op_mulP (pe_op op_sub (pe_ix (ix_K K) (pv 1) pe_int (by exact fun _ _ => rfl)) pe_int) (pe_menu (pa_cons pe_int (pa_cons pe_int (pa_cons (pe_powK (r := 1000000000000000000000000) (by decide)) pa_nil))) (pe_op op_mod (pe_ix (ix_K K) (pv 1) pe_int (by exact fun _ _ => rfl)) pe_int) (by exact fun _ _ => rfl))))
 (pss_cons (ps_set (i := 8) sc_law_train.nd rfl (Or.inl rfl) (pv 7))
 (pss_cons (ps_for PassesOwn.never rfl (pi_range1 (by rfl) T.z_range (pa_cons (pv 2) pa_nil)) (pg_name (i := 9) sc_law_train.nd rfl (Or.inl rfl))
 (pss_cons (ps_set (i := 10) sc_law_train.nd rfl (Or.inl rfl) (pe_op op_mod (pe_op op_mulP (pe_ix (ix_K K) (pv 4) (pv 9) (by exact fun _ _ => rfl)) (pe_op op_addP (pe_powK (r := 1000000000000) (by decide)) pe_int)) (pe_op op_addP (pv 3) pe_int)))
 (pss_join (ps_if (pt_cmpR op_gt (pe_op op_mod (pe_ix (ix_K K) (pv 4) (pv 9) (by exact fun _ _ => rfl)) pe_int) pe_int (nomark _))
 (pss_one (ps_set (i := 10) sc_law_train.nd rfl (Or.inl rfl) (pe_op op_mod (pe_ix (ix_K K) (pv 4) (pv 9) (by exact fun _ _ => rfl)) (pe_op op_addP (pv 3) pe_int))))
 pss_nil)
 (pss_cons (ps_set (i := 11) sc_law_train.nd rfl (Or.inl rfl) (pe_menu (pa_cons (pe_op op_sub pe_int (pv 10)) (pa_cons (pv 10) (pa_cons (pe_op op_sub (pe_op op_mod (pe_op op_mulP (pe_ix (ix_K K) (pv 4) (pe_op op_addP pe_int (pv 9)) (by exact fun _ _ => rfl)) (pe_op op_addP (pe_powK (r := 1000000000000) (by decide)) pe_int)) (pe_op op_addP (pe_op op_mulP pe_int (pv 10)) pe_int)) (pv 10)) pa_nil))) (pe_op op_mod (pe_ix (ix_K K) (pv 4) (pe_op op_addP pe_int (pv 9)) (by exact fun _ _ => rfl)) pe_int) (by exact fun _ _ => rfl)))
 (pss_cons (ps_expr (pe_bmK K PySem.F.plainAttrs_list PySem.F.slot_list_append PySem.F.type_list_append mt_append (pv 5) (pa_cons (pv 10) pa_nil)))
 (pss_cons (ps_set (i := 8) sc_law_train.nd rfl (Or.inl rfl) (pe_op op_addP (pv 8) (pv 11)))
 (pss_one (ps_expr (pe_bmK K PySem.F.plainAttrs_list PySem.F.slot_list_append PySem.F.type_list_append mt_append (pv 6) (pa_cons (pv 8) pa_nil))))))))))
 (pss_one (ps_ret (pe_tup (pa_cons (pv 5) (pa_cons (pv 7) (pa_cons (pv 6) pa_nil))))))))))))))), ?_⟩
    dsimp only [tSeq, tAsg, gName, tOp, tUn, tTest, tB, tAnd, tOr, tNot, tAndV, tOrV, tNotV, tIf, tIfS, tRet, tRetN, tDrop, tNext, tCons, tNil, tCB, tCall, tMenu, tComp, iZip2, iEnum, tNoIf, tTru, tJoin, cxOf_K, tLst, tTup, tSl, tPart, tNoPart, tBM, tBM0, tChain, tC, tFor_eq, gTup, gStar, gLst, gCons, gNil, gSub, iList, iRng1, iRng2, iRng3, iTup, iZip3, tWhile, tRev, tRaise, tCallS, tTry, tAug, tPar, tNever, ipI, List.append_nil]
    walk_at "st"
    refine ⟨a, ns, 0, rfl, hS, by decide, fun c0 => ?_⟩
    walk_at "st"
    refine ⟨c0, 6, 1000, rfl, by decide, by decide, by decide, by decide, fun lh H1 hs N1 l1 b1 => ?_⟩
    have q1 := SqL.of (K := K) N1.at_
    walk_at "st"
    refine i_ixL q1 (by omega) (by omega) (fun v0 _ m0 => ?_)
    walk_at "st"
    refine i_ixL q1 (by omega) (by omega) (fun v0' _ m0' => ?_)
    walk_at "st"
    refine i_ixL q1 (by omega) (by omega) (fun v1 _ m1 => ?_)
    walk_at "st"
    have e1 := Int.emod_nonneg v0 (show (12 : Int) ≠ 0 by decide)
    have e2 := Int.emod_lt_of_pos v0 (show (0 : Int) < 12 by decide)
    have e3 := Int.emod_nonneg v0' (show (4 : Int) ≠ 0 by decide)
    have e4 := Int.emod_lt_of_pos v0' (show (0 : Int) < 4 by decide)
    refine i_menu3 (Int.emod_nonneg _ (by decide)) (Int.emod_lt_of_pos _ (by decide)) (fun many hm => ?_)
    have hmany : 1 ≤ many ∧ many ≤ 12 := by omega
    clear hm e1 e2 e3 e4
    walk_at "st"
    refine i_ixL q1 (by omega) (by omega) (fun v2 _ m2 => ?_)
    walk_at "st"
    refine i_menu4 (Int.emod_nonneg _ (by decide)) (Int.emod_lt_of_pos _ (by decide)) (fun far hf => ?_)
    have hfar : 0 ≤ far := by omega
    clear hf
    walk_at "st"
    refine ⟨a, ns, 1, rfl, N1.sm.seq hS, by decide, fun c1 => ?_⟩
    walk_at "st"
    refine ⟨c1, 36, 1000000000, rfl, by decide, by decide, by decide, by decide, fun lq H2 pk N2 l2 b2 => ?_⟩
    have q2 := SqL.of (K := K) N2.at_
    have q1' := N2.sm.seq q1
    walk_at "st"
    intro lp hp
    walk_at "st"
    intro lw hw
    walk_at "st"
    have s3 : Same H2 (upd (upd H2 lp (.lst [])) lw (.lst [])) := (same_upd hp).trans (same_upd hw)
    refine i_ixL (s3.seq q1') (by omega) (by omega) (fun v3 _ m3 => ?_)
    have hb3 := b1 _ m3
    walk_at "st"
    refine i_ixL (s3.seq q1') (by omega) (by omega) (fun v4 _ m4 => ?_)
    walk_at "st"
    refine i_menu3 (Int.emod_nonneg _ (by decide)) (Int.emod_lt_of_pos _ (by decide)) (fun sc _ => ?_)
    refine i_mulI (cmul_l (by omega) (by omega)) ?_
    generalize (v3 - 500) * sc = hd
    walk_at "st"
    have hne : lp ≠ lw := ne_of_none upd_same hw
    have hpf : H lp = none := (N1.sm.trans N2.sm).free hp
    have hwf : H lw = none := (N1.sm.trans N2.sm).free ((same_upd hp).free hw)
    refine ⟨by omega, by omega, lp_range (fun i σ H3 => ∃ (ah : Int) (u1 u2 u3 : Option V) (ps ws : List Int), σ = [some (.ref a), some (.ref lh), some (.int many), some (.int far), some (.ref lq), some (.ref lp), some (.ref lw), some (.int hd), some (.int ah), u1, u2, u3] ∧
      Same H2 H3 ∧ H3 lp = some (.lst (iL ps)) ∧ H3 lw = some (.lst (iL ws)) ∧ ps.length = i ∧ ws.length = i ∧ i ≤ 12 ∧ (∀ p ∈ ps, 0 ≤ p) ∧ keeps ps hd ws ∧ lastOf hd ws = ah) ?_ ?_ ?_⟩
    · exact ⟨hd, _, _, _, [], [], rfl, s3, by rw [upd_ne hne, upd_same]; rfl, upd_same, rfl, rfl, by decide, by simp, trivial, rfl⟩
    · rintro i σ H3 hi ⟨ah, u1, u2, u3, ps, ws, rfl, sm, hP, hW, lps, lws, hi12, hpos, hk, hlast⟩
      have q3 := sm.seq q2
      walk_at "st"
      refine i_ixL q3 (by omega) (by omega) (fun w0 _ n0 => ?_)
      have c0 := b2 _ n0
      walk_at "st"
      refine i_mulI (cmul_l (by omega) (by omega)) ?_
      walk_at "st"
      have d1 := Int.emod_nonneg (w0 * (1000000000000 + 1)) (show far + 1 ≠ 0 by omega)
      have d2 := Int.emod_lt_of_pos (w0 * (1000000000000 + 1)) (show 0 < far + 1 by omega)
      generalize (w0 * (1000000000000 + 1)) % (far + 1) = play0 at *
      refine ⟨fun σ H4 => ∃ play : Int, σ = [some (.ref a), some (.ref lh), some (.int many), some (.int far), some (.ref lq), some (.ref lp), some (.ref lw), some (.int hd), some (.int ah), some (.int (0 + (i : Int))), some (.int play), u3] ∧ 0 ≤ play ∧ H4 = H3, ?_, ?_⟩
      · walk_at "st"
        refine i_ixL q3 (by omega) (by omega) (fun w1 _ n1 => ?_)
        walk_at "st"
        refine i_if (fun _ => ?_) (fun _ => ?_)
        · walk_at "st"
          refine i_ixL q3 (by omega) (by omega) (fun w2 _ n2 => ?_)
          walk_at "st"
          exact ⟨Int.emod_nonneg _ (by omega), rfl⟩
        · exact ⟨_, rfl, d1, rfl⟩
      · rintro σ H4 ⟨play, rfl, hp0, rfl⟩
        walk_at "st"
        refine i_ixL q3 (by omega) (by omega) (fun w3 _ n3 => ?_)
        have c3 := b2 _ n3
        walk_at "st"
        refine i_mulI (cmul_l (by omega) (by omega)) ?_
        walk_at "st"
        refine i_mulI (cmul_l (by decide) (by decide)) ?_
        walk_at "st"
        have g1 := Int.emod_nonneg (w3 * (1000000000000 + 1)) (show 2 * play + 1 ≠ 0 by omega)
        have g2 := Int.emod_lt_of_pos (w3 * (1000000000000 + 1)) (show 0 < 2 * play + 1 by omega)
        generalize (w3 * (1000000000000 + 1)) % (2 * play + 1) = sd at *
        refine i_ixL q3 (by omega) (by omega) (fun w4 _ n4 => ?_)
        walk_at "st"
        refine i_menu3 (Int.emod_nonneg _ (by decide)) (Int.emod_lt_of_pos _ (by decide)) (fun side hside => ?_)
        have hs1 : side ≤ play ∧ -play ≤ side := by omega
        clear hside
        walk_at "st"
        refine ⟨.inl ⟨rfl, _, SqL.of hP⟩, ?_⟩
        walk_at "st"
        refine i_app hP (szlt (by simp [iL]; omega)) ?_
        walk_at "st"
        have hW' : upd H4 lp (.lst (iL ps ++ [V.int play])) lw = some (.lst (iL ws)) := by rw [upd_ne hne.symm]; exact hW
        refine ⟨.inl ⟨rfl, _, SqL.of hW'⟩, ?_⟩
        walk_at "st"
        refine i_app hW' (szlt (by simp [iL]; omega)) ?_
        refine ⟨ah + side, _, _, _, ps ++ [play], ws ++ [ah + side], rfl, fun b o e => ?_, ?_, ?_, by simp; omega, by simp; omega, by omega, ?_, keeps_snoc ps ws hd (by omega) hk (by omega) (by omega), lastOf_snoc _ _ _⟩
        · have e1 : b ≠ lp := ne_of_none e hp
          have e2 : b ≠ lw := ne_of_none e ((same_upd hp).free hw)
          rw [upd_ne e2, upd_ne e1]; exact sm b o e
        · rw [upd_ne hne, upd_same]; simp [iL]
        · rw [upd_same]; simp [iL]
        · intro p hpm
          rcases List.mem_append.mp hpm with z | z
          · exact hpos p z
          · simp at z; subst z; exact hp0
    · rintro σ H3 ⟨ah, u1, u2, u3, ps, ws, rfl, sm, hP, hW, lps, lws, hi12, hpos, hk, hlast⟩
      walk_at "st"
      intro t ht
      have sA : Same H H3 := (N1.sm.trans N2.sm).trans sm
      exact k t lp lw ps ws hd _ (sA.free ht) ⟨hpf, sA.trans (same_upd ht), same_upd ht _ _ hP⟩ ⟨hwf, sA.trans (same_upd ht), same_upd ht _ _ hW⟩ hne upd_same ⟨by omega, by omega, hpos⟩ ⟨by omega, hk⟩

--SPLIT
theorem pd_bls {H : Hp} {l : Addr} {bs : List Bool} {n : Nat} (h : H l = some (.lst (bL bs))) : PdAt K H (n + 1) (.list (bs.map PyData.bool)) (.ref l) := by
  refine pd_lst (SqL.of h) ?_
  clear h
  induction bs with
  | nil => exact .nil
  | cons b bs ih => exact .cons pd_bl ih
def pStd : List Int → PyData
  | [] => .none
  | h :: ws => .tuple [.int h, pL ws]
theorem pd_std {H : Hp} {t : Addr} {L : List Int} {n : Nat} (h : StAt H t L) : PdAt K H (n + 2) (pStd L) (.ref t) := by
  obtain ⟨lw, x, ws, rfl, a, b⟩ := h
  exact pd_tup (SqT.of a) (.cons pd_int (.cons (pd_ints (SqL.of b)) .nil))
theorem pd_stds {H : Hp} {l : Addr} {us : List Addr} {Ls : List (List Int)} {n : Nat} (h : H l = some (.lst (us.map V.ref))) (hP : Paired (StAt H) us Ls) : PdAt K H (n + 3) (.list (Ls.map pStd)) (.ref l) := by
  refine pd_lst (SqL.of h) ?_
  clear h
  induction hP with
  | nil => exact .nil
  | cons r _ ih => exact .cons (pd_std r) ih
theorem pd_two {H : Hp} {t l1 l2 : Addr} {x1 x2 : List Int} {n : Nat} (ht : H t = some (.tup [.ref l1, .ref l2])) (h1 : H l1 = some (.lst (iL x1))) (h2 : H l2 = some (.lst (iL x2))) : PdAt K H (n + 2) (.tuple [pL x1, pL x2]) (.ref t) :=
  pd_tup (SqT.of ht) (.cons (pd_ints (SqL.of h1)) (.cons (pd_ints (SqL.of h2)) .nil))
/-- a stand whose list is neither of two -/
def StX (r d : Addr) (H : Hp) (t : Addr) (L : List Int) : Prop := ∃ lw h ws, L = h :: ws ∧ H t = some (.tup [.int h, .ref lw]) ∧ H lw = some (.lst (iL ws)) ∧ lw ≠ r ∧ lw ≠ d
theorem StX.at {r d : Addr} {H : Hp} {t : Addr} {L : List Int} (h : StX r d H t L) : StAt H t L := by
  obtain ⟨lw, x, ws, e, a, b, _⟩ := h
  exact ⟨lw, x, ws, e, a, b⟩
theorem StX.more {r d : Addr} {H H' : Hp} {t : Addr} {L : List Int} (h : StX r d H t L) (s : Same H H') : StX r d H' t L := by
  obtain ⟨lw, x, ws, e, a, b, c⟩ := h
  exact ⟨lw, x, ws, e, s _ _ a, s _ _ b, c⟩
structure GSt (H : Hp) (lp lw lrow ldue there : Addr) (ps ws : List Int) (hd : Int) (ts us : List Addr) (gs : List (Int × Int)) : Prop where
  p : H lp = some (.lst (iL ps))
  w : H lw = some (.lst (iL ws))
  r : H lrow = some (.lst (ts.map V.ref))
  d : H ldue = some (.lst (us.map V.ref))
  m : MsAt H ts gs
  st : Paired (StX lrow ldue H) us (gRun ps (hd :: ws) gs)
  he : StX lrow ldue H there (gEnd ps (hd :: ws) gs)
theorem GSt.more {H H' : Hp} {lp lw lrow ldue there : Addr} {ps ws : List Int} {hd : Int} {ts us : List Addr} {gs : List (Int × Int)} (S : GSt H lp lw lrow ldue there ps ws hd ts us gs) (s : Same H H') : GSt H' lp lw lrow ldue there ps ws hd ts us gs :=
  ⟨s _ _ S.p, s _ _ S.w, s _ _ S.r, s _ _ S.d, S.m.more s, Paired.mapP S.st fun _ _ h => h.more s, S.he.more s⟩
theorem StX.keep {r d : Addr} {H H' : Hp} {t x : Addr} {L : List Int} {xs : List V} (h : StX r d H t L) (hx : H x = some (.lst xs)) (hr : x = r ∨ x = d) (k : ∀ b o, H b = some o → b ≠ x → H' b = some o) : StX r d H' t L := by
  obtain ⟨lw, h0, ws, e, a, b, n1, n2⟩ := h
  refine ⟨lw, h0, ws, e, k _ _ a (fun z => by rw [z, hx] at a; cases a), k _ _ b (fun z => ?_), n1, n2⟩
  rcases hr with hr | hr
  · exact n1 (z.trans hr)
  · exact n2 (z.trans hr)
theorem GSt.push {H : Hp} {lp lw lrow ldue there : Addr} {ps ws : List Int} {hd : Int} {ts us : List Addr} {gs : List (Int × Int)} (S : GSt H lp lw lrow ldue there ps ws hd ts us gs) (npr : lp ≠ lrow) (nwr : lw ≠ lrow) (npd : lp ≠ ldue) (nwd : lw ≠ ldue) (nrd : lrow ≠ ldue) {t6 tb : Addr} {g : Int × Int} (e6 : H t6 = some (.tup [.int g.1, .int g.2])) (hb : StX lrow ldue H tb (gAll ps (gEnd ps (hd :: ws) gs) (g.1 + 1).toNat g.2)) :
    GSt (upd (upd H lrow (.lst (ts.map V.ref ++ [.ref t6]))) ldue (.lst (us.map V.ref ++ [.ref tb]))) lp lw lrow ldue tb ps ws hd (ts ++ [t6]) (us ++ [tb]) (gs ++ [g]) := by
  have k1 : ∀ b o, H b = some o → b ≠ lrow → upd H lrow (.lst (ts.map V.ref ++ [.ref t6])) b = some o := fun b o e n => by rw [upd_ne n]; exact e
  have d1 := k1 _ _ S.d nrd.symm
  have r1 : upd H lrow (.lst (ts.map V.ref ++ [.ref t6])) lrow = some (.lst (ts.map V.ref ++ [.ref t6])) := upd_same
  have m1 : MsAt (upd H lrow (.lst (ts.map V.ref ++ [.ref t6]))) ts gs := S.m.up S.r
  have x1 := k1 _ _ e6 (fun z => by rw [z, S.r] at e6; cases e6)
  have b1 : StX lrow ldue (upd H lrow (.lst (ts.map V.ref ++ [.ref t6]))) tb (gAll ps (gEnd ps (hd :: ws) gs) (g.1 + 1).toNat g.2) := hb.keep S.r (.inl rfl) k1
  have s1 : Paired (StX lrow ldue (upd H lrow (.lst (ts.map V.ref ++ [.ref t6])))) us (gRun ps (hd :: ws) gs) := Paired.mapP S.st fun _ _ h => h.keep S.r (.inl rfl) k1
  have p1 := k1 _ _ S.p npr
  have w1 := k1 _ _ S.w nwr
  generalize upd H lrow (.lst (ts.map V.ref ++ [.ref t6])) = H1 at *
  have k2 : ∀ b o, H1 b = some o → b ≠ ldue → upd H1 ldue (.lst (us.map V.ref ++ [.ref tb])) b = some o := fun b o e n => by rw [upd_ne n]; exact e
  have b2 := b1.keep d1 (.inr rfl) k2
  refine ⟨k2 _ _ p1 npd, k2 _ _ w1 nwd, by rw [k2 _ _ r1 nrd]; simp, by rw [upd_same]; simp, Paired.snoc (m1.up d1) (k2 _ _ x1 (fun z => by rw [z, d1] at x1; cases x1)), ?_, ?_⟩
  · rw [gRun_app]
    exact Paired.snoc (Paired.mapP s1 fun _ _ h => h.keep d1 (.inr rfl) k2) b2
  · rw [gEnd_app]
    exact b2
theorem i_slToV {H : Hp} {Q : VK} {a : Addr} {xs : List V} {b : Int} (h : SqL K H a xs) (hb : 0 ≤ b) (q : ∀ p, H p = none → Q (.ref p) (upd H p (.lst (xs.take b.toNat)))) : rSlL K (.ref a) none (some b) H Q := ⟨a, xs, rfl, h, fun p hp => by rw [cut_to hb]; exact q p hp⟩
theorem i_slFromV {H : Hp} {Q : VK} {a : Addr} {xs : List V} {b : Int} (h : SqL K H a xs) (hb : 0 ≤ b) (q : ∀ p, H p = none → Q (.ref p) (upd H p (.lst (xs.drop b.toNat)))) : rSlL K (.ref a) (some b) none H Q := ⟨a, _, rfl, h, fun p hp => by rw [cut_from hb]; exact q p hp⟩
theorem stx_at {r d : Addr} {H : Hp} {us : List Addr} {Ls : List (List Int)} (h : Paired (StX r d H) us Ls) : Paired (StAt H) us Ls := Paired.mapP h fun _ _ z => z.at
theorem stn_at {H H' H2 : Hp} {us : List Addr} {Ls : List (List Int)} (h : Paired (StNew H H') us Ls) (s : Same H' H2) : Paired (StAt H2) us Ls := Paired.mapP h fun _ _ z => z.at.more s
theorem pd_pair {H : Hp} {t l1 l2 : Addr} {us : List Addr} {Ls : List (List Int)} {n : Nat} (ht : H t = some (.tup [.ref l1, .ref l2])) (h1 : H l1 = some (.lst (us.map V.ref))) (hP : Paired (StAt H) us Ls) (h2 : H l2 = some (.lst [])) : PdAt K H (n + 4) (.tuple [.list (Ls.map pStd), .list []]) (.ref t) :=
  pd_tup (SqT.of ht) (.cons (pd_stds h1 hP) (.cons (pd_lst (SqL.of h2) .nil) .nil))
theorem paired_take {α β : Type} {F : α → β → Prop} : ∀ {as : List α} {bs : List β} (n : Nat), Paired F as bs → Paired F (as.take n) (bs.take n)
  | _, _, n, .nil => by simp; exact .nil
  | _, _, 0, .cons _ _ => .nil
  | _, _, n + 1, .cons h t => .cons h (paired_take n t)
theorem paired_drop {α β : Type} {F : α → β → Prop} : ∀ {as : List α} {bs : List β} (n : Nat), Paired F as bs → Paired F (as.drop n) (bs.drop n)
  | _, _, n, .nil => by simp; exact .nil
  | _, _, 0, .cons h t => .cons h t
  | _, _, n + 1, .cons h t => paired_drop n t
theorem paired_app {α β : Type} {F : α → β → Prop} : ∀ {as : List α} {bs : List β} {cs : List α} {ds : List β}, Paired F as bs → Paired F cs ds → Paired F (as ++ cs) (bs ++ ds)
  | _, _, _, _, .nil, h => h
  | _, _, _, _, .cons h t, h2 => .cons h (paired_app t h2)
theorem first_new {H H' : Hp} {us : List Addr} {ps L : List Int} {gs : List (Int × Int)} (h : Paired (StNew H H') us (gRun ps L gs)) (hg : 1 ≤ gs.length) (hl : L.length = ps.length + 1) (hok : okGr ps.length gs) : ∃ u0 us' lw0 h0 ws0, us = u0 :: us' ∧ H' u0 = some (.tup [.int h0, .ref lw0]) ∧ H' lw0 = some (.lst (iL ws0)) ∧ H lw0 = none ∧ ws0.length = ps.length := by
  cases gs with
  | nil => simp at hg
  | cons g gs =>
    have hgo := hok g List.mem_cons_self
    simp only [gRun] at h
    cases h with
    | cons r _ =>
      obtain ⟨lw0, h0, ws0, e, q2, q3, q4⟩ := r
      have hlen := gAll_len (c := g.2) hl (show (g.1 + 1).toNat ≤ ps.length by omega)
      rw [e] at hlen
      exact ⟨_, _, lw0, h0, ws0, rfl, q2, q3, q4, by simp at hlen; omega⟩
theorem ok_law {f : Addr} {fd : FuncData} (F : Fun K "law" "law" s_law f fd) (T : Txt mg) (Z : Cls K mg) (C_law_train : Callee P w K mg base "_law_train" 2 (spTrain K)) (C_law_cell_at : Callee P w K mg base "_law_cell_at" 1 (spCellAt K)) (C_law_draws : Callee P w K mg base "_law_draws" 1 spDraws) (C_law_told : Callee P w K mg base "_law_told" 7 spGTold) (C_law_a_behind : Callee P w K mg base "_law_a_behind" 2 spBehind) (C_law_whole : Callee P w K mg base "_law_whole" 1 spWhole) (C_law_due_kin : Callee P w K mg base "_law_due_kin" 1 spDueKinG) :
    FnOk P w K mg base CX0 8 f fd ["script"] (spLaw K) := by
  refine F.ok sc_law (fun vs H Q E h => ?_) (fun cdv A outer s H vs Q E hr h => ?_)
  · obtain ⟨a, ns, rfl, _⟩ := h
    rfl
  · obtain ⟨a, ns, rfl, hS, hlen, k⟩ := h
    have hu := hr.units
    refine ⟨_, (pss_cons (ps_asg (pe_callN C_law_train (hr.mono (by decide)) (by rfl) (pa_cons (pv 0) pa_nil)) (pg_tupK K 3 (pgs_cons (pg_name (i := 1) sc_law.nd rfl (Or.inl rfl)) (pgs_cons (pg_name (i := 2) sc_law.nd rfl (Or.inl rfl)) (pgs_cons (pg_name (i := 3) sc_law.nd rfl (Or.inl rfl)) pgs_nil)))))
 (pss_cons (ps_set (i := 4) sc_law.nd rfl (Or.inl rfl) (pe_callB (call_lenK K) (by rfl) T.z_len bt_len (pa_cons (pv 1) pa_nil)))
 (pss_cons (ps_set (i := 5) sc_law.nd rfl (Or.inl rfl) (pe_op op_addP (pe_op op_mulP pe_int (pe_callB (call_sumK K) (by rfl) T.z_sum bt_sum (pa_cons (pv 1) pa_nil))) pe_int))
 (pss_cons (ps_set (i := 6) sc_law.nd rfl (Or.inl rfl) (pe_lst pa_nil))
 (pss_cons (ps_set (i := 7) sc_law.nd rfl (Or.inl rfl) (pe_lst pa_nil))
 (pss_cons (ps_set (i := 8) sc_law.nd rfl (Or.inl rfl) (pe_tup (pa_cons (pv 2) (pa_cons (pv 3) pa_nil))))
 (pss_cons (ps_for PassesOwn.never rfl (pi_listK K (pe_op op_addP (pe_lst (pa_cons (pe_callN C_law_cell_at (hr.mono (by decide)) (by rfl) (pa_cons (pv 0) (pa_cons pe_int pa_nil))) pa_nil)) (pe_slice (sl_listK K) (pv 0) (po_some pe_int) (po_some pe_int)))) (pg_name (i := 9) sc_law.nd rfl (Or.inl rfl))
 (pss_cons (ps_set (i := 10) sc_law.nd rfl (Or.inl rfl) (pe_callN C_law_draws (hr.mono (by decide)) (by rfl) (pa_cons (pv 9) (pa_cons pe_int (pa_cons (pe_powK (r := 1000000000) (by decide)) pa_nil)))))
 (pss_cons (ps_set (i := 11) sc_law.nd rfl (Or.inl rfl) (pe_op op_sub (pe_op op_mod (pe_ix (ix_K K) (pv 10) pe_int (by exact fun _ _ => rfl)) (pe_op op_addP (pv 4) pe_int)) pe_int))
 (pss_cons (ps_set (i := 12) sc_law.nd rfl (Or.inl rfl) (pe_ix (ix_K K) (pe_op op_addP (pe_lst (pa_cons (pe_ix (ix_K K) (pv 8) pe_int (by exact fun _ _ => rfl)) pa_nil)) (pe_ix (ix_K K) (pv 8) pe_int (by exact fun _ _ => rfl))) (pe_op op_addP (pv 11) pe_int) (by exact fun _ _ => rfl)))
 (pss_cons (ps_set (i := 13) sc_law.nd rfl (Or.inl rfl) (pe_op op_sub (pe_op op_mod (pe_op op_mulP (pe_ix (ix_K K) (pv 10) pe_int (by exact fun _ _ => rfl)) (pe_op op_addP (pe_powK (r := 10000000000000) (by decide)) pe_int)) (pe_op op_addP (pe_op op_mulP pe_int (pv 5)) pe_int)) (pv 5)))
 (pss_cons (ps_set (i := 12) sc_law.nd rfl (Or.inl rfl) (pe_op op_addP (pv 12) (pe_menu (pa_cons (pe_op op_sub (pe_op op_mod (pe_ix (ix_K K) (pv 10) pe_int (by exact fun _ _ => rfl)) pe_int) pe_int) (pa_cons (pv 13) pa_nil)) (pe_op op_mod (pe_ix (ix_K K) (pv 10) pe_int (by exact fun _ _ => rfl)) pe_int) (by exact fun _ _ => rfl))))
 (pss_cons (ps_set (i := 14) sc_law.nd rfl (Or.inl rfl) (pe_tup (pa_cons (pe_callTy (call_listK K) (by rfl) T.z_list bt_list (pa_cons (pv 1) pa_nil)) (pa_cons (pe_callTy (call_listK K) (by rfl) T.z_list bt_list (pa_cons (pe_ix (ix_K K) (pv 8) pe_int (by exact fun _ _ => rfl)) pa_nil)) pa_nil))))
 (pss_cons (ps_asg (pe_callN C_law_told (hr.mono (by decide)) (by rfl) (pa_cons (pe_ix (ix_K K) (pv 14) pe_int (by exact fun _ _ => rfl)) (pa_cons (pe_ix (ix_K K) (pv 8) pe_int (by exact fun _ _ => rfl)) (pa_cons (pe_ix (ix_K K) (pv 14) pe_int (by exact fun _ _ => rfl)) (pa_cons (pe_tup (pa_cons (pv 11) (pa_cons (pv 12) pa_nil))) pa_nil))))) (pg_tupK K 2 (pgs_cons (pg_name (i := 15) sc_law.nd rfl (Or.inl rfl)) (pgs_cons (pg_name (i := 16) sc_law.nd rfl (Or.inl rfl)) pgs_nil))))
 (pss_cons (ps_set (i := 17) sc_law.nd rfl (Or.inl rfl) (pe_callN C_law_a_behind (hr.mono (by decide)) (by rfl) (pa_cons (pv 1) (pa_cons (pe_ix (ix_K K) (pv 8) pe_int (by exact fun _ _ => rfl)) (pa_cons (pe_ix (ix_K K) (pv 8) pe_int (by exact fun _ _ => rfl)) (pa_cons (pv 11) (pa_cons (pv 12) pa_nil)))))))
 (pss_cons (ps_if (PW.pt (pw_or (pt_cmpR (op_neK K hu) (pv 16) (pe_lst pa_nil) (nomark _)) (pw_or (pt_not (pt_truthK K (pe_callB (call_isinstanceK K) (by rfl) T.z_isinstance bt_isinstance (pa_cons (pv 15) (pa_cons (pe_bltn (by rfl) T.z_tuple bt_tuple (show RelV (.ty "tuple") _ from rfl)) pa_nil))))) (pw_or1 (pt_cmpR (op_neK K hu) (pv 15) (pv 17) (nomark _))))))
 (pss_one (ps_ret pe_bl))
 pss_nil)
 (pss_cons (ps_if (PW.pt (pw_or (pt_cmpR (op_neK K hu) (pv 14) (pe_tup (pa_cons (pv 1) (pa_cons (pe_ix (ix_K K) (pv 8) pe_int (by exact fun _ _ => rfl)) pa_nil))) (nomark _)) (pw_or1 (pt_not (pt_truthK K (pe_callB (call_isinstanceK K) (by rfl) T.z_isinstance bt_isinstance (pa_cons (pe_ix (ix_K K) (pv 15) pe_int (by exact fun _ _ => rfl)) (pa_cons (pe_bltn (by rfl) T.z_list bt_list (show RelV (.ty "list") _ from rfl)) pa_nil))))))))
 (pss_one (ps_ret pe_bl))
 pss_nil)
 (pss_cons (ps_if (pt_cmpR (op_neK K hu) (by exact pe_comp (N := ["one"]) (fr := [none]) ⟨by rfl, by decide +kernel, by decide +kernel, (show ∀ y ∈ (_ : List (Str × NameKind)), y.2 = NameKind.free → (defScope s_law).names.lookup y.1 = some .cell ∨ (defScope s_law).names.lookup y.1 = some .free by decide +kernel), (fr_none fr_nil)⟩ (by rfl) (pi_listK K (pe_ix (ix_K K) (pv 15) pe_int (by exact fun _ _ => rfl))) (fun _ _ _ _ => (pg_name (i := 0) (show List.Nodup (["one"] : List Str) by decide) (by rfl) (by exact Or.inl rfl))) (fun _ _ _ _ => (pifs_one (pt_not (pt_truthK K (pe_callN C_law_whole (hr.mono (by decide)) (by rfl) (pa_cons (pv 0) pa_nil)))))) (fun _ _ _ _ => (pv 0)) (gw_name (by rfl))) (pe_lst pa_nil) (nomark _))
 (pss_one (ps_ret pe_bl))
 pss_nil)
 (pss_cons (ps_expr (pe_bmK K PySem.F.plainAttrs_list PySem.F.slot_list_append PySem.F.type_list_append mt_append (pe_ix (ix_K K) (pv 15) pe_int (by exact fun _ _ => rfl)) (pa_cons pe_int pa_nil)))
 (pss_cons (ps_set (i := 8) sc_law.nd rfl (Or.inl rfl) (pv 17))
 (pss_cons (ps_expr (pe_bmK K PySem.F.plainAttrs_list PySem.F.slot_list_append PySem.F.type_list_append mt_append (pv 6) (pa_cons (pe_tup (pa_cons (pv 11) (pa_cons (pv 12) pa_nil))) pa_nil)))
 (pss_one (ps_expr (pe_bmK K PySem.F.plainAttrs_list PySem.F.slot_list_append PySem.F.type_list_append mt_append (pv 7) (pa_cons (pv 17) pa_nil)))))))))))))))))))
 (pss_cons (ps_asg (pe_callN C_law_told (hr.mono (by decide)) (by rfl) (pa_cons (pv 1) (pa_cons (pv 2) (pa_cons (pv 3) (pa_cons (pv 6) pa_nil))))) (pg_tupK K 2 (pgs_cons (pg_name (i := 15) sc_law.nd rfl (Or.inl rfl)) (pgs_cons (pg_name (i := 16) sc_law.nd rfl (Or.inl rfl)) pgs_nil))))
 (pss_cons (ps_if (PW.pt (pw_or (pt_cmpR (op_neK K hu) (pv 16) (pe_lst pa_nil) (nomark _)) (pw_or (pt_not (pt_truthK K (pe_callB (call_isinstanceK K) (by rfl) T.z_isinstance bt_isinstance (pa_cons (pv 15) (pa_cons (pe_bltn (by rfl) T.z_list bt_list (show RelV (.ty "list") _ from rfl)) pa_nil))))) (pw_or1 (pt_cmpR (op_neK K hu) (pv 15) (pv 7) (nomark _))))))
 (pss_one (ps_ret pe_bl))
 pss_nil)
 (pss_cons (ps_expr (pe_bmK K PySem.F.plainAttrs_list PySem.F.slot_list_append PySem.F.type_list_append mt_append (pe_ix (ix_K K) (pe_ix (ix_K K) (pv 15) pe_int (by exact fun _ _ => rfl)) pe_int (by exact fun _ _ => rfl)) (pa_cons pe_int pa_nil)))
 (pss_cons (ps_if (pt_cmpR (op_neK K hu) (pe_callN C_law_told (hr.mono (by decide)) (by rfl) (pa_cons (pv 1) (pa_cons (pv 2) (pa_cons (pv 3) (pa_cons (pv 6) pa_nil))))) (pe_tup (pa_cons (pv 7) (pa_cons (pe_lst pa_nil) pa_nil))) (nomark _))
 (pss_one (ps_ret pe_bl))
 pss_nil)
 (pss_cons (ps_if (pt_cmpR (op_neK K hu) (pe_callN C_law_told (hr.mono (by decide)) (by rfl) (pa_cons (pv 1) (pa_cons (pv 2) (pa_cons (pv 3) (pa_cons (pe_lst pa_nil) pa_nil))))) (pe_tup (pa_cons (pe_lst pa_nil) (pa_cons (pe_lst pa_nil) pa_nil))) (nomark _))
 (pss_one (ps_ret pe_bl))
 pss_nil)
 (pss_cons (ps_for PassesOwn.never rfl (pi_tupK K (pe_tup (pa_cons (pe_negK (r := -2) (by decide)) (pa_cons (pv 4) (pa_cons (pe_powK (r := 1000000000000000000000000000000) (by decide)) (pa_cons (pe_op op_sub pe_int (pe_powK (r := 1000000000000000000000000000000) (by decide))) pa_nil)))))) (pg_name (i := 18) sc_law.nd rfl (Or.inl rfl))
 (pss_cons (ps_set (i := 19) sc_law.nd rfl (Or.inl rfl) (pe_op op_mod (pe_callN C_law_cell_at (hr.mono (by decide)) (by rfl) (pa_cons (pv 0) (pa_cons pe_int pa_nil))) (pe_op op_addP (pe_callB (call_lenK K) (by rfl) T.z_len bt_len (pa_cons (pv 6) pa_nil)) pe_int)))
 (pss_one (ps_for PassesOwn.never rfl (pi_tupK K (pe_tup (pa_cons (pe_tup (pa_cons (pv 18) (pa_cons pe_int pa_nil))) (pa_cons (pe_op op_addP (pe_op op_addP (pe_slice (sl_listK K) (pv 6) po_none (po_some (pv 19))) (pe_lst (pa_cons (pe_tup (pa_cons (pv 18) (pa_cons pe_int pa_nil))) pa_nil))) (pe_slice (sl_listK K) (pv 6) (po_some (pv 19)) po_none)) pa_nil)))) (pg_name (i := 20) sc_law.nd rfl (Or.inl rfl))
 (pss_one (ps_if (pt_cmpR (op_neK K hu) (pe_callN C_law_told (hr.mono (by decide)) (by rfl) (pa_cons (pv 1) (pa_cons (pv 2) (pa_cons (pv 3) (pa_cons (pv 20) pa_nil))))) (pe_tup (pa_cons pe_non (pa_cons (pe_callN C_law_due_kin (hr.mono (by decide)) (by rfl) (pa_cons pe_str pa_nil)) pa_nil))) (nomark _))
 (pss_one (ps_ret pe_bl))
 pss_nil))))))
 (pss_one (ps_ret pe_bl))))))))))))))), ?_⟩
    dsimp only [tSeq, tAsg, gName, tOp, tUn, tTest, tB, tAnd, tOr, tNot, tAndV, tOrV, tNotV, tIf, tIfS, tRet, tRetN, tDrop, tNext, tCons, tNil, tCB, tCall, tMenu, tComp, iZip2, iEnum, tNoIf, tTru, tJoin, cxOf_K, tLst, tTup, tSl, tPart, tNoPart, tBM, tBM0, tChain, tC, tFor_eq, gTup, gStar, gLst, gCons, gNil, gSub, iList, iRng1, iRng2, iRng3, iTup, iZip3, tWhile, tRev, tRaise, tCallS, tTry, tAug, tPar, tNever, ipI, List.append_nil]
    walk_at "st"
    refine ⟨a, ns, rfl, hS, fun t0 lp lw ps ws hd H1 ft0 N1 N2 npw e0 hT hSt => ?_⟩
    walk_at "st"
    refine ⟨_, _, rfl, SqT.of e0, rfl, _, _, rfl, _, _, rfl, _, _, rfl, rfl, ?_⟩
    have hn1 := hT.1
    have hn2 := hT.2.1
    have hp0 := hT.2.2
    walk_at "st"
    refine i_lenI (SqL.of N1.at_) ?_
    walk_at "st"
    refine i_sum (SqL.of N1.at_) ?_
    have hsum : 0 ≤ ps.sum := sum_nonneg hp0
    walk_at "st"
    refine i_mulI (cmul_l (by decide) (by decide)) ?_
    generalize ps.sum = sm0 at *
    walk_at "st"
    intro lrow hlrow
    walk_at "st"
    intro ldue hldue
    walk_at "st"
    intro there hthere
    have sa := (same_upd (o := .lst []) hlrow).trans ((same_upd (o := .lst []) hldue).trans (same_upd (o := .tup [.int hd, .ref lw]) hthere))
    have nrd : lrow ≠ ldue := fun z => by rw [← z, upd_same] at hldue; cases hldue
    have S0 : GSt (upd (upd (upd H1 lrow (.lst [])) ldue (.lst [])) there (.tup [.int hd, .ref lw])) lp lw lrow ldue there ps ws hd [] [] [] := by
      refine ⟨sa _ _ N1.at_, sa _ _ N2.at_, ?_, ?_, .nil, .nil, lw, hd, ws, rfl, upd_same, sa _ _ N2.at_, ?_, ?_⟩
      · exact ((same_upd (o := .lst []) hldue).trans (same_upd hthere)) lrow (.lst []) upd_same
      · exact same_upd hthere ldue (.lst []) upd_same
      · exact ne_of_none N2.at_ hlrow
      · exact ne_of_none (same_upd hlrow _ _ N2.at_) hldue
    have npr : lp ≠ lrow := ne_of_none N1.at_ hlrow
    have nwr : lw ≠ lrow := ne_of_none N2.at_ hlrow
    have npd : lp ≠ ldue := ne_of_none (same_upd (o := .lst []) hlrow _ _ N1.at_) hldue
    have nwd : lw ≠ ldue := ne_of_none (same_upd (o := .lst []) hlrow _ _ N2.at_) hldue
    have hS3 := (N1.sm.trans sa).seq hS
    have sH3 := N1.sm.trans sa
    have frow : H lrow = none := N1.sm.free hlrow
    have fdue : H ldue = none := (N1.sm.trans (same_upd (o := .lst []) hlrow)).free hldue
    generalize upd (upd (upd H1 lrow (.lst [])) ldue (.lst [])) there (.tup [.int hd, .ref lw]) = H3 at *
    clear sa hlrow hldue hthere N1 N2 e0 ft0
    walk_at "st"
    refine ⟨a, ns, 2, rfl, hS3, by decide, fun c2 => ?_⟩
    walk_at "st"
    intro g2 hg2
    walk_at "st"
    refine i_slMid ((same_upd hg2).seq hS3) (by decide) (by decide) (fun g3 hg3 => ?_)
    generalize hcs : (ns.drop (3 : Int).toNat).take ((22 : Int).toNat - (3 : Int).toNat) = cs at *
    have hcl : cs.length ≤ 19 := by rw [← hcs, List.length_take]; exact Nat.min_le_left _ _
    refine i_addL (a := g2) (b := g3) (xs := [.int c2]) (ys := iL cs) (same_upd hg3 _ _ upd_same) upd_same (szl (by simp [iL]; omega)) (fun lc hlc => ?_)
    have s4 : Same H3 _ := (same_upd (o := .lst [.int c2]) hg2).trans ((same_upd (o := .lst (iL cs)) hg3).trans (same_upd (o := .lst ([.int c2] ++ iL cs)) hlc))
    have e4 : upd (upd (upd H3 g2 (.lst [.int c2])) g3 (.lst (iL cs))) lc (.lst ([.int c2] ++ iL cs)) lc = some (.lst (iL (c2 :: cs))) := by rw [upd_same]; rfl
    have nlcr : lc ≠ lrow := (ne_of_none ((same_upd (o := .lst [.int c2]) hg2).trans (same_upd (o := .lst (iL cs)) hg3) _ _ S0.r) hlc).symm
    have nlcd : lc ≠ ldue := (ne_of_none ((same_upd (o := .lst [.int c2]) hg2).trans (same_upd (o := .lst (iL cs)) hg3) _ _ S0.d) hlc).symm
    generalize upd (upd (upd H3 g2 (.lst [.int c2])) g3 (.lst (iL cs))) lc (.lst ([.int c2] ++ iL cs)) = H4 at *
    have S4 := S0.more s4
    have sH4 := sH3.trans s4
    clear S0 s4 hg2 hg3 hlc hS3 sH3
    walk_at "st"
    refine ⟨⟨_, SqL.of e4⟩, lp_ints (ns := c2 :: cs) (fun i σ H5 => ∃ (u9 u10 u11 u12 u13 u14 u15 u16 u17 u18 u19 u20 : Option V) (there : Addr) (ts us : List Addr) (gs : List (Int × Int)), σ = [some (.ref a), some (.ref lp), some (.int hd), some (.ref lw), some (.int ps.length), some (.int (2 * sm0 + 3)), some (.ref lrow), some (.ref ldue), some (.ref there), u9, u10, u11, u12, u13, u14, u15, u16, u17, u18, u19, u20] ∧ GSt H5 lp lw lrow ldue there ps ws hd ts us gs ∧ H5 lc = some (.lst (iL (c2 :: cs))) ∧ okGr ps.length gs ∧ gs.length = i ∧ Same H H5 ∧ ∀ hh wh, gEnd ps (hd :: ws) gs = hh :: wh → stand ps hh wh) ?_ ?_ ?_ ?_⟩
    · exact ⟨_, _, _, _, _, _, _, _, _, _, _, _, there, [], [], [], rfl, S4, e4, fun g hg => (by simp at hg), rfl, sH4, fun hh wh e => (by injection e with e1 e2; subst e1 e2; exact hSt)⟩
    · rintro i σ H5 _ ⟨u9, u10, u11, u12, u13, u14, u15, u16, u17, u18, u19, u20, there, ts, us, gs, rfl, S5, e5, _⟩
      exact SqL.of e5
    · rintro i cell σ H5 hx ⟨u9, u10, u11, u12, u13, u14, u15, u16, u17, u18, u19, u20, there, ts, us, gs, rfl, S5, e5, hok, hgl, sH5, hstd⟩
      have hi20 : i < 20 := by have := (List.getElem?_eq_some_iff.mp hx).1; simp at this; omega
      walk_at "st"
      refine ⟨cell, 4, 1000000000, rfl, by decide, by decide, by decide, by decide, fun lq H6 pk N6 l6 b6 => ?_⟩
      have S6 := S5.more N6.sm
      have q6 := N6.at_
      have sH6 := sH5.trans N6.sm
      have e6 := N6.sm _ _ e5
      clear S5 N6 e5 sH5
      walk_at "st"
      refine i_ixL (SqL.of q6) (by omega) (by omega) (fun v0 _ m0 => ?_)
      walk_at "st"
      have r1 := Int.emod_nonneg v0 (show (ps.length : Int) + 1 ≠ 0 by omega)
      have r2 := Int.emod_lt_of_pos v0 (show (0 : Int) < (ps.length : Int) + 1 by omega)
      obtain ⟨pc, hpc⟩ : ∃ pc : Int, v0 % ((ps.length : Int) + 1) - 1 = pc := ⟨_, rfl⟩
      rw [hpc]
      have hpc1 : -1 ≤ pc ∧ pc < ps.length := by omega
      obtain ⟨lwh, hh, wh, hE, ht6, hw6, nwhr, nwhd⟩ := id S6.he
      have hst6 := hstd hh wh hE
      have hwhl : wh.length = ps.length := hst6.1
      have hLl : (hh :: wh).length = ps.length + 1 := by simp; omega
      refine i_ixT (SqT.of ht6) (by decide) (v := .int hh) rfl ?_
      walk_at "st"
      intro g1 hg1
      walk_at "st"
      refine i_ixT (SqT.of (same_upd hg1 _ _ ht6)) (by decide) (v := .ref lwh) rfl ?_
      refine i_addL (a := g1) (b := lwh) (xs := [.int hh]) (ys := iL wh) upd_same (same_upd hg1 _ _ hw6) (szl (by simp [iL]; omega)) (fun g2 hg2 => ?_)
      have s7 : Same H6 _ := (same_upd (o := .lst [.int hh]) hg1).trans (same_upd (o := .lst ([.int hh] ++ iL wh)) hg2)
      have e7 : upd (upd H6 g1 (.lst [.int hh])) g2 (.lst ([.int hh] ++ iL wh)) g2 = some (.lst (iL (hh :: wh))) := by rw [upd_same]; rfl
      generalize upd (upd H6 g1 (.lst [.int hh])) g2 (.lst ([.int hh] ++ iL wh)) = H7 at *
      walk_at "st"
      refine i_ixL (SqL.of e7) (by omega) (by omega) (fun pl0 _ _ => ?_)
      walk_at "st"
      refine i_ixL (SqL.of (s7 _ _ q6)) (by omega) (by omega) (fun v1 _ _ => ?_)
      walk_at "st"
      refine i_mulI (cmul_r (by decide) (by decide)) ?_
      walk_at "st"
      refine i_mulI (cmul_l (by decide) (by decide)) ?_
      walk_at "st"
      refine i_ixL (SqL.of (s7 _ _ q6)) (by omega) (by omega) (fun v1' _ _ => ?_)
      walk_at "st"
      refine i_ixL (SqL.of (s7 _ _ q6)) (by omega) (by omega) (fun v2 _ _ => ?_)
      walk_at "st"
      generalize v1 * (10000000000000 + 1) % (2 * (2 * sm0 + 3) + 1) - (2 * sm0 + 3) = far0
      refine i_menu2 (Int.emod_nonneg _ (by decide)) (Int.emod_lt_of_pos _ (by decide)) (fun pl1 _ => ?_)
      walk_at "st"
      generalize pl0 + pl1 = pl
      have S7 := S6.more s7
      have e7c := s7 _ _ e6
      have sH7 := sH6.trans s7
      have ht7 := s7 _ _ ht6
      have hw7 := s7 _ _ hw6
      clear S6 e6 sH6 ht6 hw6 s7 e7 hg1 hg2 q6
      refine i_listL (SqL.of S7.p) (fun k1 hk1 => ?_)
      walk_at "st"
      refine i_ixT (SqT.of (same_upd hk1 _ _ ht7)) (by decide) (v := .ref lwh) rfl ?_
      walk_at "st"
      refine i_listL (SqL.of (same_upd hk1 _ _ hw7)) (fun k2 hk2 => ?_)
      walk_at "st"
      intro t3 ht3
      have s8 : Same H7 _ := (same_upd (o := .lst (iL ps)) hk1).trans ((same_upd (o := .lst (iL wh)) hk2).trans (same_upd (o := .tup [.ref k1, .ref k2]) ht3))
      have f1 : upd (upd (upd H7 k1 (.lst (iL ps))) k2 (.lst (iL wh))) t3 (.tup [.ref k1, .ref k2]) k1 = some (.lst (iL ps)) := ((same_upd hk2).trans (same_upd ht3)) _ _ upd_same
      have f2 : upd (upd (upd H7 k1 (.lst (iL ps))) k2 (.lst (iL wh))) t3 (.tup [.ref k1, .ref k2]) k2 = some (.lst (iL wh)) := (same_upd ht3) _ _ upd_same
      have f3 : upd (upd (upd H7 k1 (.lst (iL ps))) k2 (.lst (iL wh))) t3 (.tup [.ref k1, .ref k2]) t3 = some (.tup [.ref k1, .ref k2]) := upd_same
      generalize upd (upd (upd H7 k1 (.lst (iL ps))) k2 (.lst (iL wh))) t3 (.tup [.ref k1, .ref k2]) = H8 at *
      walk_at "st"
      refine i_ixT (SqT.of f3) (by decide) (v := .ref k1) rfl ?_
      walk_at "st"
      refine i_ixT (SqT.of (s8 _ _ ht7)) (by decide) (v := .int hh) rfl ?_
      walk_at "st"
      refine i_ixT (SqT.of f3) (by decide) (v := .ref k2) rfl ?_
      walk_at "st"
      intro t4 ht4
      have s9 : Same H8 _ := same_upd (o := .tup [.int pc, .int pl]) ht4
      have e9 : upd H8 t4 (.tup [.int pc, .int pl]) t4 = some (.tup [.int pc, .int pl]) := upd_same
      generalize upd H8 t4 (.tup [.int pc, .int pl]) = H9 at *
      walk_at "st"
      refine ⟨k1, k2, t4, ps, wh, hh, rfl, s9 _ _ f1, s9 _ _ f2, hT, hst6, .inl ⟨pc, pl, e9, fun _ tf uf lk H10 s10 e10 hN10 hk10 => ?_, fun z => absurd hpc1 z⟩⟩
      have S10 := S7.more (s8.trans (s9.trans s10))
      have e10c := (s8.trans (s9.trans s10)) _ _ e7c
      have sH10 := sH7.trans (s8.trans (s9.trans s10))
      have ht10 := (s8.trans (s9.trans s10)) _ _ ht7
      have hw10 := (s8.trans (s9.trans s10)) _ _ hw7
      have f1' := s10 _ _ (s9 _ _ f1)
      have f2' := s10 _ _ (s9 _ _ f2)
      have f3' := s10 _ _ (s9 _ _ f3)
      have frf : ∃ lwf hf wf, gAll ps (hh :: wh) (pc + 1).toNat pl = hf :: wf ∧ H10 uf = some (.tup [.int hf, .ref lwf]) ∧ H10 lwf = some (.lst (iL wf)) ∧ H9 lwf = none := hN10
      have hfree : ∀ {b : Addr}, H9 b = none → H b = none ∧ b ≠ lrow ∧ b ≠ ldue ∧ b ≠ lp ∧ b ≠ lw ∧ b ≠ lc := fun {b} e => by
        have sx := s8.trans s9
        exact ⟨(sH7.trans sx).free e, (ne_of_none (sx _ _ S7.r) e).symm, (ne_of_none (sx _ _ S7.d) e).symm, (ne_of_none (sx _ _ S7.p) e).symm, (ne_of_none (sx _ _ S7.w) e).symm, (ne_of_none (sx _ _ e7c) e).symm⟩
      have hS9 : GSt H9 lp lw lrow ldue there ps ws hd ts us gs := S7.more (s8.trans s9)
      clear S7 e7c sH7 ht7 hw7 s8 s9 f1 f2 f3 e9 hk1 hk2 ht3 ht4
      walk_at "st"
      refine ⟨_, _, rfl, SqT.of e10, rfl, _, _, rfl, _, _, rfl, rfl, ?_⟩
      walk_at "st"
      refine i_ixT (SqT.of ht10) (by decide) (v := .int hh) rfl ?_
      walk_at "st"
      refine i_ixT (SqT.of ht10) (by decide) (v := .ref lwh) rfl ?_
      walk_at "st"
      refine ⟨lp, lwh, ps, wh, hh, pc, pl, rfl, S10.p, hw10, hwhl, hn2, hp0, hpc1.1, hpc1.2, fun tb H11 s11 hN11 => ?_⟩
      walk_at "st"
      intro g5 hg5
      have s12 := same_upd (o := .lst []) hg5
      have e12 : upd H11 g5 (.lst []) g5 = some (.lst (iL [])) := upd_same
      generalize upd H11 g5 (.lst []) = H12 at *
      have sA := s11.trans s12
      obtain ⟨lwf, hf, wf, hG, huf, hlf, flf⟩ := frf
      refine i_neL (xs := []) (ys := []) (SqL.of (sA _ _ hk10)) (SqL.of e12) ?_
      walk_at "st"
      refine i_ifn (fun z => absurd rfl z) (fun _ => ?_)
      walk_at "st"
      refine i_isiTT (sA _ _ huf) ?_
      walk_at "st"
      refine i_neSame (pStd (gAll ps (hh :: wh) (pc + 1).toNat pl)) (pd_std ⟨lwf, hf, wf, hG, sA _ _ huf, sA _ _ hlf⟩) (pd_std (hN11.at.more s12)) ?_
      walk_at "st"
      refine i_ixT (SqT.of (sA _ _ ht10)) (by decide) (v := .ref lwh) rfl ?_
      walk_at "st"
      intro t5 ht5
      have s13 := same_upd (o := .tup [.ref lp, .ref lwh]) ht5
      have e13 : upd H12 t5 (.tup [.ref lp, .ref lwh]) t5 = some (.tup [.ref lp, .ref lwh]) := upd_same
      generalize upd H12 t5 (.tup [.ref lp, .ref lwh]) = H13 at *
      have sB := sA.trans s13
      refine i_neSame (.tuple [pL ps, pL wh]) (pd_two (sB _ _ f3') (sB _ _ f1') (sB _ _ f2')) (pd_two e13 (sB _ _ S10.p) (sB _ _ hw10)) ?_
      walk_at "st"
      refine i_ixT (SqT.of (sB _ _ huf)) (by decide) (v := .ref lwf) rfl ?_
      walk_at "st"
      refine i_isiLL (sB _ _ hlf) ?_
      walk_at "st"
      refine i_ixT (SqT.of (sB _ _ huf)) (by decide) (v := .ref lwf) rfl ?_
      walk_at "st"
      have hGl := gAll_len (c := pl) hLl (show (pc + 1).toNat ≤ ps.length by omega)
      rw [hG] at hGl
      have hwfl : wf.length ≤ 12 := by simp at hGl; omega
      refine ⟨⟨_, SqL.of (sB _ _ hlf)⟩, cp_list (xs := iL wf) (fun i ys H14 => ys = [] ∧ Same H13 H14) ⟨rfl, Same.refl _⟩ ?_ (szlt (by simp [iL]; omega)) ?_ ?_⟩
      · rintro i ys H14 ⟨rfl, sm⟩
        exact ⟨SqL.of (sm _ _ (sB _ _ hlf)), by simp⟩
      · rintro i x ys H14 hx ⟨rfl, sm⟩
        rw [List.getElem?_map] at hx
        obtain ⟨z, hz, rfl⟩ := Option.map_eq_some_iff.mp hx
        walk_at "st"
        refine ⟨z, rfl, ?_⟩
        walk_at "st"
        exact ⟨rfl, sm⟩
      rintro l5 ys H14 ⟨rfl, sm14⟩ hl5
      have s14 := sm14.trans (same_upd (o := .lst []) hl5)
      have e14 : upd H14 l5 (.lst []) l5 = some (.lst (iL [])) := upd_same
      generalize upd H14 l5 (.lst []) = H15 at *
      walk_at "st"
      intro g6 hg6
      have s15 := same_upd (o := .lst []) hg6
      have e15 : upd H15 g6 (.lst []) g6 = some (.lst (iL [])) := upd_same
      generalize upd H15 g6 (.lst []) = H16 at *
      refine i_neL (xs := []) (ys := []) (SqL.of (s15 _ _ e14)) (SqL.of e15) ?_
      walk_at "st"
      refine i_ifn (fun z => absurd rfl z) (fun _ => ?_)
      have sC := sB.trans (s14.trans s15)
      walk_at "st"
      refine i_ixT (SqT.of (sC _ _ huf)) (by decide) (v := .ref lwf) rfl ?_
      walk_at "st"
      refine ⟨.inl ⟨rfl, _, SqL.of (sC _ _ hlf)⟩, ?_⟩
      walk_at "st"
      refine i_app (sC _ _ hlf) (szlt (by simp [iL]; omega)) ?_
      obtain ⟨z1, z2, z3, z4, z5, z6⟩ := hfree flf
      have k17 : ∀ b o, H16 b = some o → b ≠ lwf → upd H16 lwf (.lst (iL wf ++ [.int 7])) b = some o := fun b o e n => by rw [upd_ne n]; exact e
      generalize upd H16 lwf (.lst (iL wf ++ [.int 7])) = H17 at *
      have s17 : Same H9 H17 := fun b o e => k17 _ _ (sC _ _ (s10 _ _ e)) (ne_of_none e flf)
      have S17 := hS9.more s17
      have e17c : H17 lc = some (.lst (iL (c2 :: cs))) := k17 _ _ (sC _ _ e10c) z6.symm
      have sH17 : Same H H17 := fun b o e => k17 _ _ (sC _ _ (sH10 b o e)) (ne_of_none e z1)
      obtain ⟨lwb, hb, wb, hGb, htb, hlb, flb⟩ := id hN11
      have nbf : lwb ≠ lwf := fun z => by rw [z, hlf] at flb; cases flb
      have sD := s12.trans (s13.trans (s14.trans s15))
      have htb17 := k17 _ _ (sD _ _ htb) (fun z => by have q := sA _ _ hlf; rw [← z] at q; rw [s12 _ _ htb] at q; cases q)
      have hlb17 := k17 _ _ (sD _ _ hlb) nbf
      have bx17 : StX lrow ldue H17 tb (gAll ps (gEnd ps (hd :: ws) gs) (pc + 1).toNat pl) := ⟨lwb, hb, wb, by rw [hE]; exact hGb, htb17, hlb17, (ne_of_none S10.r flb).symm, (ne_of_none S10.d flb).symm⟩
      clear s11 s12 s13 s14 s15 sA sB sC sD k17 sm14 hg5 hg6 hl5 ht5 e12 e13 e14 e15 f1' f2' f3' hN11 hN10 hk10 e10 S10 e10c sH10 ht10 hw10 hfree hS9 s10 htb hlb htb17 hlb17 huf hlf
      walk_at "st"
      refine ⟨.inl ⟨rfl, _, SqL.of S17.r⟩, ?_⟩
      walk_at "st"
      intro t6 ht6
      have s18 := same_upd (o := .tup [.int pc, .int pl]) ht6
      have e18 : upd H17 t6 (.tup [.int pc, .int pl]) t6 = some (.tup [.int pc, .int pl]) := upd_same
      generalize upd H17 t6 (.tup [.int pc, .int pl]) = H18 at *
      have S18 := S17.more s18
      have bx18 := bx17.more s18
      have e18c := s18 _ _ e17c
      have sH18 := sH17.trans s18
      have htl : ts.length = gs.length := S18.m.length
      have hul : us.length = (gRun ps (hd :: ws) gs).length := S18.st.length
      rw [gRun_len] at hul
      walk_at "st"
      refine i_app S18.r (szlt (by simp; omega)) ?_
      walk_at "st"
      refine ⟨.inl ⟨rfl, _, SqL.of (show upd H18 lrow (.lst (ts.map V.ref ++ [.ref t6])) ldue = some (.lst (us.map V.ref)) by rw [upd_ne nrd.symm]; exact S18.d)⟩, ?_⟩
      walk_at "st"
      refine i_app (show upd H18 lrow (.lst (ts.map V.ref ++ [.ref t6])) ldue = some (.lst (us.map V.ref)) by rw [upd_ne nrd.symm]; exact S18.d) (szlt (by simp; omega)) ?_
      have S20 := S18.push npr nwr npd nwd nrd (t6 := t6) (tb := tb) (g := (pc, pl)) e18 bx18
      refine ⟨_, _, _, _, _, _, _, _, _, _, _, _, tb, _, _, _, rfl, S20, by rw [upd_ne nlcd, upd_ne nlcr]; exact e18c, fun g hg => ?_, by simp; omega, fun b o e => by rw [upd_ne (ne_of_none e fdue), upd_ne (ne_of_none e frow)]; exact sH18 b o e, fun h2 w2 e2 => ?_⟩
      · rcases List.mem_append.mp hg with z | z
        · exact hok g z
        · simp at z; subst z; exact hpc1
      · rw [gEnd_app, hE] at e2
        exact gAll_stand hLl (show (pc + 1).toNat ≤ ps.length by omega) hp0 e2
    rintro σ H5 ⟨u9, u10, u11, u12, u13, u14, u15, u16, u17, u18, u19, u20, there2, ts, us, gs, rfl, S5, e5, hok, hgl, sH5, _⟩
    clear e5 S4
    walk_at "st"
    have hg1 : 1 ≤ gs.length ∧ gs.length ≤ 20 := by rw [hgl]; simp; omega
    refine ⟨lp, lw, lrow, ps, ws, hd, rfl, S5.p, S5.w, hT, hSt, .inr ⟨ts, gs, S5.r, S5.m, by omega, fun _ t1 l1 us1 lk1 H6 s6 e6 el6 hP6 hk6 => ?_, fun z => absurd hok z⟩⟩
    walk_at "st"
    refine ⟨_, _, rfl, SqT.of e6, rfl, _, _, rfl, _, _, rfl, rfl, ?_⟩
    walk_at "st"
    intro g1 hg1a
    have s7 := same_upd (o := .lst []) hg1a
    have e7 : upd H6 g1 (.lst []) g1 = some (.lst (iL [])) := upd_same
    generalize upd H6 g1 (.lst []) = H7 at *
    refine i_neL (xs := []) (ys := []) (SqL.of (s7 _ _ hk6)) (SqL.of e7) ?_
    walk_at "st"
    refine i_ifn (fun z => absurd rfl z) (fun _ => ?_)
    walk_at "st"
    refine i_isiLL (s7 _ _ el6) ?_
    walk_at "st"
    have sx7 := s6.trans s7
    refine i_neSame (.list ((gRun ps (hd :: ws) gs).map pStd)) (pd_stds (s7 _ _ el6) (stn_at hP6 s7)) (pd_stds (sx7 _ _ S5.d) (stx_at (S5.more sx7).st)) ?_
    walk_at "st"
    obtain ⟨u0, us1', lw0, hd0, ws0, rfl, hu0, hlw0, fw0, hws0⟩ := first_new hP6 hg1.1 (by simp [hSt.1]) hok
    refine i_ixN (SqL.of (s7 _ _ el6)) (i := 0) (by decide) (v := .ref u0) rfl ?_
    walk_at "st"
    refine i_ixT (SqT.of (s7 _ _ hu0)) (by decide) (v := .ref lw0) rfl ?_
    walk_at "st"
    refine ⟨.inl ⟨rfl, _, SqL.of (s7 _ _ hlw0)⟩, ?_⟩
    walk_at "st"
    refine i_app (s7 _ _ hlw0) (szlt (by simp [iL]; omega)) ?_
    have s8 : Same H5 (upd H7 lw0 (.lst (iL ws0 ++ [.int 7]))) := fun b o e => by rw [upd_ne (ne_of_none e fw0)]; exact sx7 b o e
    generalize upd H7 lw0 (.lst (iL ws0 ++ [.int 7])) = H8 at *
    have S8 := S5.more s8
    have sH8 := sH5.trans s8
    clear s6 e6 el6 hP6 hk6 s7 e7 hg1a sx7 hu0 hlw0 fw0 S5 s8 sH5
    walk_at "st"
    refine ⟨lp, lw, lrow, ps, ws, hd, rfl, S8.p, S8.w, hT, hSt, .inr ⟨ts, gs, S8.r, S8.m, by omega, fun _ t2 l2 us2 lk2 H9 s9 e9 el9 hP9 hk9 => ?_, fun z => absurd hok z⟩⟩
    walk_at "st"
    intro g2 hg2
    walk_at "st"
    intro t3 ht3
    have s10 := (same_upd (o := .lst []) hg2).trans (same_upd (o := .tup [.ref ldue, .ref g2]) ht3)
    have e10 : upd (upd H9 g2 (.lst [])) t3 (.tup [.ref ldue, .ref g2]) t3 = some (.tup [.ref ldue, .ref g2]) := upd_same
    have f10 : upd (upd H9 g2 (.lst [])) t3 (.tup [.ref ldue, .ref g2]) g2 = some (.lst []) := same_upd ht3 _ _ upd_same
    generalize upd (upd H9 g2 (.lst [])) t3 (.tup [.ref ldue, .ref g2]) = H10 at *
    have S10 := S8.more (s9.trans s10)
    have sH10 := sH8.trans (s9.trans s10)
    refine i_neSame (.tuple [.list ((gRun ps (hd :: ws) gs).map pStd), .list []]) (pd_pair (s10 _ _ e9) (s10 _ _ el9) (stn_at hP9 s10) (s10 _ _ hk9)) (pd_pair e10 S10.d (stx_at S10.st) f10) ?_
    clear S8 sH8 s9 s10 e9 el9 hP9 hk9 e10 f10 hg2 ht3
    walk_at "st"
    intro g4 hg4
    have s11 := same_upd (o := .lst []) hg4
    have e11 : upd H10 g4 (.lst []) g4 = some (.lst (([] : List Addr).map V.ref)) := upd_same
    generalize upd H10 g4 (.lst []) = H11 at *
    have S11 := S10.more s11
    have sH11 := sH10.trans s11
    walk_at "st"
    refine ⟨lp, lw, g4, ps, ws, hd, rfl, S11.p, S11.w, hT, hSt, .inr ⟨[], [], e11, .nil, by simp, fun _ t5 l5 us5 lk5 H12 s12 e12 el12 hP12 hk12 => ?_, fun z => absurd (fun g hg => (by simp at hg)) z⟩⟩
    walk_at "st"
    intro g6 hg6
    walk_at "st"
    intro g7 hg7
    walk_at "st"
    intro t8 ht8
    have s13 := (same_upd (o := .lst []) hg6).trans ((same_upd (o := .lst []) hg7).trans (same_upd (o := .tup [.ref g6, .ref g7]) ht8))
    have e13 : upd (upd (upd H12 g6 (.lst [])) g7 (.lst [])) t8 (.tup [.ref g6, .ref g7]) t8 = some (.tup [.ref g6, .ref g7]) := upd_same
    have f13 : upd (upd (upd H12 g6 (.lst [])) g7 (.lst [])) t8 (.tup [.ref g6, .ref g7]) g6 = some (.lst (([] : List Addr).map V.ref)) := ((same_upd hg7).trans (same_upd ht8)) _ _ upd_same
    have f13' : upd (upd (upd H12 g6 (.lst [])) g7 (.lst [])) t8 (.tup [.ref g6, .ref g7]) g7 = some (.lst []) := same_upd ht8 _ _ upd_same
    generalize upd (upd (upd H12 g6 (.lst [])) g7 (.lst [])) t8 (.tup [.ref g6, .ref g7]) = H13 at *
    refine i_neSame (.tuple [.list (([] : List (List Int)).map pStd), .list []]) (pd_pair (s13 _ _ e12) (s13 _ _ el12) (stn_at hP12 s13) (s13 _ _ hk12)) (pd_pair e13 f13 .nil f13') ?_
    have S13 := S11.more (s12.trans s13)
    have sH13 := sH11.trans (s12.trans s13)
    clear S10 S11 sH10 sH11 s11 s12 s13 e11 e12 e13 f13 f13' el12 hP12 hk12 hg4 hg6 hg7 ht8
    walk_at "st"
    intro tq htq
    have s14 := same_upd (o := .tup [.int (-2), .int ps.length, .int 1000000000000000000000000000000, .int (0 - 1000000000000000000000000000000)]) htq
    have e14 : upd H13 tq (.tup [.int (-2), .int ps.length, .int 1000000000000000000000000000000, .int (0 - 1000000000000000000000000000000)]) tq = some (.tup [.int (-2), .int ps.length, .int 1000000000000000000000000000000, .int (0 - 1000000000000000000000000000000)]) := upd_same
    generalize upd H13 tq (.tup [.int (-2), .int ps.length, .int 1000000000000000000000000000000, .int (0 - 1000000000000000000000000000000)]) = H14 at *
    have S14 := S13.more s14
    have sH14 := sH13.trans s14
    clear S13 sH13 s14 htq
    have htl : ts.length = gs.length := S14.m.length
    walk_at "st"
    refine ⟨⟨_, SqT.of e14⟩, lp_tup (xs := [.int (-2), .int ps.length, .int 1000000000000000000000000000000, .int (0 - 1000000000000000000000000000000)]) (fun i σ H15 => ∃ (u18 u19 u20 : Option V), σ = [some (.ref a), some (.ref lp), some (.int hd), some (.ref lw), some (.int ps.length), some (.int (2 * sm0 + 3)), some (.ref lrow), some (.ref ldue), some (.ref there2), u9, u10, u11, u12, u13, u14, some (.ref l1), some (.ref lk1), u17, u18, u19, u20] ∧ Same H14 H15) ?_ ?_ ?_ ?_⟩
    · exact ⟨_, _, _, rfl, Same.refl _⟩
    · rintro i σ H15 _ ⟨u18, u19, u20, rfl, sm⟩
      exact SqT.of (sm _ _ e14)
    · rintro i y σ H15 hy ⟨u18, u19, u20, rfl, sm⟩
      obtain ⟨odd, rfl, hodd⟩ : ∃ odd : Int, y = .int odd ∧ ¬ (-1 ≤ odd ∧ odd < ps.length) := by
        match i, hy with
        | 0, hy => exact ⟨_, (Option.some.inj hy).symm, by omega⟩
        | 1, hy => exact ⟨_, (Option.some.inj hy).symm, by omega⟩
        | 2, hy => exact ⟨_, (Option.some.inj hy).symm, by omega⟩
        | 3, hy => exact ⟨_, (Option.some.inj hy).symm, by omega⟩
        | n + 4, hy => simp at hy
      have S15 := S14.more sm
      have sH15 := sH14.trans sm
      walk_at "st"
      refine ⟨a, ns, 2, rfl, sH15.seq hS, by decide, fun cz => ?_⟩
      walk_at "st"
      refine i_len (SqL.of S15.r) ?_
      walk_at "st"
      have hmp : (0 : Int) < ((ts.map V.ref).length : Int) + 1 := by omega
      have r1 := Int.emod_nonneg cz (show ((ts.map V.ref).length : Int) + 1 ≠ 0 by omega)
      generalize cz % (((ts.map V.ref).length : Int) + 1) = at0 at *
      intro t5 ht5
      have s16 := same_upd (o := .tup [.int odd, .int 0]) ht5
      have e16 : upd H15 t5 (.tup [.int odd, .int 0]) t5 = some (.tup [.int odd, .int 0]) := upd_same
      generalize upd H15 t5 (.tup [.int odd, .int 0]) = H16 at *
      walk_at "st"
      refine i_slToV (SqL.of (s16 _ _ S15.r)) r1 (fun q1 hq1 => ?_)
      rw [← List.map_take]
      have s17 := same_upd (o := .lst ((ts.take at0.toNat).map V.ref)) hq1
      have e17 : upd H16 q1 (.lst ((ts.take at0.toNat).map V.ref)) q1 = some (.lst ((ts.take at0.toNat).map V.ref)) := upd_same
      generalize upd H16 q1 (.lst ((ts.take at0.toNat).map V.ref)) = H17 at *
      walk_at "st"
      intro t6 ht6
      walk_at "st"
      intro q2 hq2
      have s18 := (same_upd (o := .tup [.int odd, .int 3]) ht6).trans (same_upd (o := .lst [.ref t6]) hq2)
      have e18 : upd (upd H17 t6 (.tup [.int odd, .int 3])) q2 (.lst [.ref t6]) q2 = some (.lst [.ref t6]) := upd_same
      have f18 : upd (upd H17 t6 (.tup [.int odd, .int 3])) q2 (.lst [.ref t6]) t6 = some (.tup [.int odd, .int 3]) := same_upd hq2 _ _ upd_same
      generalize upd (upd H17 t6 (.tup [.int odd, .int 3])) q2 (.lst [.ref t6]) = H18 at *
      have hle : (ts.take at0.toNat).length ≤ ts.length := by rw [List.length_take]; omega
      have hle2 : (ts.drop at0.toNat).length ≤ ts.length := by rw [List.length_drop]; omega
      refine i_addL (a := q1) (b := q2) (xs := (ts.take at0.toNat).map V.ref) (ys := [.ref t6]) (s18 _ _ e17) e18 (szl (by simp only [List.length_append, List.length_map, List.length_singleton]; omega)) (fun q3 hq3 => ?_)
      have s19 := same_upd (o := .lst ((ts.take at0.toNat).map V.ref ++ [.ref t6])) hq3
      have e19 : upd H18 q3 (.lst ((ts.take at0.toNat).map V.ref ++ [.ref t6])) q3 = some (.lst ((ts.take at0.toNat ++ [t6]).map V.ref)) := by rw [upd_same]; simp
      generalize upd H18 q3 (.lst ((ts.take at0.toNat).map V.ref ++ [.ref t6])) = H19 at *
      walk_at "st"
      refine i_slFromV (SqL.of (s19 _ _ (s18 _ _ (s17 _ _ (s16 _ _ S15.r))))) r1 (fun q4 hq4 => ?_)
      rw [← List.map_drop]
      have s20 := same_upd (o := .lst ((ts.drop at0.toNat).map V.ref)) hq4
      have e20 : upd H19 q4 (.lst ((ts.drop at0.toNat).map V.ref)) q4 = some (.lst ((ts.drop at0.toNat).map V.ref)) := upd_same
      generalize upd H19 q4 (.lst ((ts.drop at0.toNat).map V.ref)) = H20 at *
      refine i_addL (a := q3) (b := q4) (xs := (ts.take at0.toNat ++ [t6]).map V.ref) (ys := (ts.drop at0.toNat).map V.ref) (s20 _ _ e19) e20 (szl (by simp only [List.length_append, List.length_map, List.length_singleton]; omega)) (fun q5 hq5 => ?_)
      have s21 := same_upd (o := .lst ((ts.take at0.toNat ++ [t6]).map V.ref ++ (ts.drop at0.toNat).map V.ref)) hq5
      have e21 : upd H20 q5 (.lst ((ts.take at0.toNat ++ [t6]).map V.ref ++ (ts.drop at0.toNat).map V.ref)) q5 = some (.lst ((ts.take at0.toNat ++ [t6] ++ ts.drop at0.toNat).map V.ref)) := by rw [upd_same]; simp
      generalize upd H20 q5 (.lst ((ts.take at0.toNat ++ [t6]).map V.ref ++ (ts.drop at0.toNat).map V.ref)) = H21 at *
      walk_at "st"
      intro t7 ht7
      have s22 := same_upd (o := .tup [.ref t5, .ref q5]) ht7
      have e22 : upd H21 t7 (.tup [.ref t5, .ref q5]) t7 = some (.tup [.ref t5, .ref q5]) := upd_same
      generalize upd H21 t7 (.tup [.ref t5, .ref q5]) = H22 at *
      have sU := s17.trans (s18.trans (s19.trans (s20.trans (s21.trans s22))))
      have S22 := S15.more (s16.trans sU)
      have g22 := sU _ _ e16
      have h22 := s22 _ _ e21
      have m22 : MsAt H22 (ts.take at0.toNat ++ [t6] ++ ts.drop at0.toNat) (gs.take at0.toNat ++ [(odd, 3)] ++ gs.drop at0.toNat) := paired_app (paired_app (paired_take _ S22.m) (.cons ((s19.trans (s20.trans (s21.trans s22))) _ _ f18) .nil)) (paired_drop _ S22.m)
      have sm22 := sm.trans (s16.trans sU)
      clear s16 s17 s18 s19 s20 s21 s22 e16 e17 e18 f18 e19 e20 e21 sU S15 sH15
      walk_at "st"
      refine ⟨⟨_, SqT.of e22⟩, lp_tup (xs := [.ref t5, .ref q5]) (fun i σ H23 => ∃ (w20 : Option V), σ = [some (.ref a), some (.ref lp), some (.int hd), some (.ref lw), some (.int ps.length), some (.int (2 * sm0 + 3)), some (.ref lrow), some (.ref ldue), some (.ref there2), u9, u10, u11, u12, u13, u14, some (.ref l1), some (.ref lk1), u17, some (.int odd), some (.int at0), w20] ∧ Same H22 H23) ?_ ?_ ?_ ?_⟩
      · exact ⟨_, rfl, Same.refl _⟩
      · rintro i σ H23 _ ⟨w20, rfl, sm3⟩
        exact SqT.of (sm3 _ _ e22)
      · rintro i z σ H23 hz ⟨w20, rfl, sm3⟩
        have S23 := S22.more sm3
        have fin : ∀ {th : Addr}, (∀ t lk H', Same H23 H' → H' t = some (.tup [.non, .ref lk]) → H' lk = some (.lst (bL (dueX "NoPiece"))) → True) → True := fun _ => trivial
        obtain ⟨th, rfl, hth⟩ : ∃ th, z = .ref th ∧ ((∃ p c : Int, H23 th = some (.tup [.int p, .int c]) ∧ ¬ (-1 ≤ p ∧ p < ps.length)) ∨ (∃ (ts : List Addr) (gs : List (Int × Int)), H23 th = some (.lst (ts.map V.ref)) ∧ MsAt H23 ts gs ∧ gs.length ≤ 1000 ∧ ¬ okGr ps.length gs)) := by
          match i, hz with
          | 0, hz => exact ⟨t5, (Option.some.inj hz).symm, .inl ⟨odd, 0, sm3 _ _ g22, hodd⟩⟩
          | 1, hz =>
            refine ⟨q5, (Option.some.inj hz).symm, .inr ⟨_, _, sm3 _ _ h22, m22.more sm3, ?_, fun zz => hodd (zz (odd, 3) (by simp))⟩⟩
            simp only [List.length_append, List.length_take, List.length_drop, List.length_singleton]
            omega
          | n + 2, hz => simp at hz
        walk_at "st"
        refine ⟨lp, lw, th, ps, ws, hd, rfl, S23.p, S23.w, hT, hSt, ?_⟩
        rcases hth with ⟨p, c, q1, q2⟩ | ⟨ts2, gs2, q1, q2, q3, q4⟩
        · refine .inl ⟨p, c, q1, fun zz => absurd zz q2, fun _ t8 lk8 H24 s24 e24 hk24 => ?_⟩
          walk_at "st"
          refine ⟨"NoPiece", rfl, by decide +kernel, fun ld H25 s25 hd25 => ?_⟩
          walk_at "st"
          intro t9 ht9
          have s26 := same_upd (o := .tup [.non, .ref ld]) ht9
          refine i_neSame (.tuple [.none, .list ((dueX "NoPiece").map PyData.bool)]) (pd_tup (SqT.of (s26 _ _ (s25 _ _ e24))) (.cons pd_non (.cons (pd_bls (s26 _ _ (s25 _ _ hk24))) .nil))) (pd_tup (SqT.of upd_same) (.cons pd_non (.cons (pd_bls (s26 _ _ hd25)) .nil))) ?_
          walk_at "st"
          exact sm3.trans (s24.trans (s25.trans s26))
        · refine .inr ⟨ts2, gs2, q1, q2, q3, fun zz => absurd zz q4, fun _ t8 lk8 H24 s24 e24 hk24 => ?_⟩
          walk_at "st"
          refine ⟨"NoPiece", rfl, by decide +kernel, fun ld H25 s25 hd25 => ?_⟩
          walk_at "st"
          intro t9 ht9
          have s26 := same_upd (o := .tup [.non, .ref ld]) ht9
          refine i_neSame (.tuple [.none, .list ((dueX "NoPiece").map PyData.bool)]) (pd_tup (SqT.of (s26 _ _ (s25 _ _ e24))) (.cons pd_non (.cons (pd_bls (s26 _ _ (s25 _ _ hk24))) .nil))) (pd_tup (SqT.of upd_same) (.cons pd_non (.cons (pd_bls (s26 _ _ hd25)) .nil))) ?_
          walk_at "st"
          exact sm3.trans (s24.trans (s25.trans s26))
      rintro σ H23 ⟨w20, rfl, sm3⟩
      exact ⟨_, _, _, rfl, sm22.trans sm3⟩
    rintro σ H15 ⟨u18, u19, u20, rfl, sm⟩
    walk_at "st"
    exact k _
end
theorem all_mk {l : PySem.W.OpenLaw} {w : World} {K : PySem.W.Frag} {h : Heap} {mg : Str → Option Value} {fa : Addr} (X : K.In h) (G : h.Ns mainGlobals mg) (hfa : mg "law" = some (.ref fa))
    {f_law_cell_at : Addr} {od_law_cell_at an_law_cell_at : Option Addr} {sl_law_cell_at : Array (Option Value)} {oc_law_cell_at kV_law_cell_at dc_law_cell_at pm_law_cell_at cd_law_cell_at ct_law_cell_at : Value}
    {f_law_draws : Addr} {od_law_draws an_law_draws : Option Addr} {sl_law_draws : Array (Option Value)} {oc_law_draws kV_law_draws dc_law_draws pm_law_draws cd_law_draws ct_law_draws : Value}
    {f_law_whole : Addr} {od_law_whole an_law_whole : Option Addr} {sl_law_whole : Array (Option Value)} {oc_law_whole kV_law_whole dc_law_whole pm_law_whole cd_law_whole ct_law_whole : Value}
    {f_law_a_kin : Addr} {od_law_a_kin an_law_a_kin : Option Addr} {sl_law_a_kin : Array (Option Value)} {oc_law_a_kin kV_law_a_kin dc_law_a_kin pm_law_a_kin cd_law_a_kin ct_law_a_kin : Value}
    {f_law_due_kin : Addr} {od_law_due_kin an_law_due_kin : Option Addr} {sl_law_due_kin : Array (Option Value)} {oc_law_due_kin kV_law_due_kin dc_law_due_kin pm_law_due_kin cd_law_due_kin ct_law_due_kin : Value}
    {f_refuse_no_piece : Addr} {od_refuse_no_piece an_refuse_no_piece : Option Addr} {sl_refuse_no_piece : Array (Option Value)} {oc_refuse_no_piece kV_refuse_no_piece dc_refuse_no_piece pm_refuse_no_piece cd_refuse_no_piece ct_refuse_no_piece : Value}
    {f_dragged : Addr} {od_dragged an_dragged : Option Addr} {sl_dragged : Array (Option Value)} {oc_dragged kV_dragged dc_dragged pm_dragged cd_dragged ct_dragged : Value}
    {f_all_dragged : Addr} {od_all_dragged an_all_dragged : Option Addr} {sl_all_dragged : Array (Option Value)} {oc_all_dragged kV_all_dragged dc_all_dragged pm_all_dragged cd_all_dragged ct_all_dragged : Value}
    {f_moved : Addr} {od_moved an_moved : Option Addr} {sl_moved : Array (Option Value)} {oc_moved kV_moved dc_moved pm_moved cd_moved ct_moved : Value}
    {f_is_train : Addr} {od_is_train an_is_train : Option Addr} {sl_is_train : Array (Option Value)} {oc_is_train kV_is_train dc_is_train pm_is_train cd_is_train ct_is_train : Value}
    {f_keeps_plays : Addr} {od_keeps_plays an_keeps_plays : Option Addr} {sl_keeps_plays : Array (Option Value)} {oc_keeps_plays kV_keeps_plays dc_keeps_plays pm_keeps_plays cd_keeps_plays ct_keeps_plays : Value}
    {f_refuse_no_train : Addr} {od_refuse_no_train an_refuse_no_train : Option Addr} {sl_refuse_no_train : Array (Option Value)} {oc_refuse_no_train kV_refuse_no_train dc_refuse_no_train pm_refuse_no_train cd_refuse_no_train ct_refuse_no_train : Value}
    {f_is_stand : Addr} {od_is_stand an_is_stand : Option Addr} {sl_is_stand : Array (Option Value)} {oc_is_stand kV_is_stand dc_is_stand pm_is_stand cd_is_stand ct_is_stand : Value}
    {f_refuse_no_stand : Addr} {od_refuse_no_stand an_refuse_no_stand : Option Addr} {sl_refuse_no_stand : Array (Option Value)} {oc_refuse_no_stand kV_refuse_no_stand dc_refuse_no_stand pm_refuse_no_stand cd_refuse_no_stand ct_refuse_no_stand : Value}
    {f_grabs_of : Addr} {od_grabs_of an_grabs_of : Option Addr} {sl_grabs_of : Array (Option Value)} {oc_grabs_of kV_grabs_of dc_grabs_of pm_grabs_of cd_grabs_of ct_grabs_of : Value}
    {f_grabbed : Addr} {od_grabbed an_grabbed : Option Addr} {sl_grabbed : Array (Option Value)} {oc_grabbed kV_grabbed dc_grabbed pm_grabbed cd_grabbed ct_grabbed : Value}
    {f_law_dragged : Addr} {od_law_dragged an_law_dragged : Option Addr} {sl_law_dragged : Array (Option Value)} {oc_law_dragged kV_law_dragged dc_law_dragged pm_law_dragged cd_law_dragged ct_law_dragged : Value}
    {f_law_a_behind : Addr} {od_law_a_behind an_law_a_behind : Option Addr} {sl_law_a_behind : Array (Option Value)} {oc_law_a_behind kV_law_a_behind dc_law_a_behind pm_law_a_behind cd_law_a_behind ct_law_a_behind : Value}
    {f_law_told : Addr} {od_law_told an_law_told : Option Addr} {sl_law_told : Array (Option Value)} {oc_law_told kV_law_told dc_law_told pm_law_told cd_law_told ct_law_told : Value}
    {f_law_train : Addr} {od_law_train an_law_train : Option Addr} {sl_law_train : Array (Option Value)} {oc_law_train kV_law_train dc_law_train pm_law_train cd_law_train ct_law_train : Value}
    {f_law : Addr} {od_law an_law : Option Addr} {sl_law : Array (Option Value)} {oc_law kV_law dc_law pm_law cd_law ct_law : Value}
    {t_MOST_PLAYS : Tok}
    {c_TrainError : Addr}
    {c_NoTrain : Addr}
    {c_NoStand : Addr}
    {c_NoPaper : Addr}
    {c_NoBox : Addr}
    {c_NoSwitch : Addr}
    {c_NoPlace : Addr}
    {c_NoTable : Addr}
    {c_NoText : Addr}
    {c_NoRow : Addr}
    {c_NoPiece : Addr}
    {c_NothingLeft : Addr}
    {c_TooMany : Addr}
    (a_law_cell_at : PySem.W.nsIn K mainGlobals "_law_cell_at" = some (some (.ref f_law_cell_at))) (l_law_cell_at : K.lookup f_law_cell_at = some ⟨oc_law_cell_at, od_law_cell_at, .func (PySem.W.fnOf "_law_cell_at" "_law_cell_at" (defArgs s_law_cell_at) (defBody s_law_cell_at) (defScope s_law_cell_at) .none kV_law_cell_at dc_law_cell_at pm_law_cell_at an_law_cell_at cd_law_cell_at ct_law_cell_at), sl_law_cell_at⟩) (c_law_cell_at : PySem.W.codeIn K cd_law_cell_at "_law_cell_at" = true) (k_law_cell_at : PySem.W.keepIn K (.ref f_law_cell_at) = true)
    (a_law_draws : PySem.W.nsIn K mainGlobals "_law_draws" = some (some (.ref f_law_draws))) (l_law_draws : K.lookup f_law_draws = some ⟨oc_law_draws, od_law_draws, .func (PySem.W.fnOf "_law_draws" "_law_draws" (defArgs s_law_draws) (defBody s_law_draws) (defScope s_law_draws) .none kV_law_draws dc_law_draws pm_law_draws an_law_draws cd_law_draws ct_law_draws), sl_law_draws⟩) (c_law_draws : PySem.W.codeIn K cd_law_draws "_law_draws" = true) (k_law_draws : PySem.W.keepIn K (.ref f_law_draws) = true)
    (a_law_whole : PySem.W.nsIn K mainGlobals "_law_whole" = some (some (.ref f_law_whole))) (l_law_whole : K.lookup f_law_whole = some ⟨oc_law_whole, od_law_whole, .func (PySem.W.fnOf "_law_whole" "_law_whole" (defArgs s_law_whole) (defBody s_law_whole) (defScope s_law_whole) .none kV_law_whole dc_law_whole pm_law_whole an_law_whole cd_law_whole ct_law_whole), sl_law_whole⟩) (c_law_whole : PySem.W.codeIn K cd_law_whole "_law_whole" = true) (k_law_whole : PySem.W.keepIn K (.ref f_law_whole) = true)
    (a_law_a_kin : PySem.W.nsIn K mainGlobals "_law_a_kin" = some (some (.ref f_law_a_kin))) (l_law_a_kin : K.lookup f_law_a_kin = some ⟨oc_law_a_kin, od_law_a_kin, .func (PySem.W.fnOf "_law_a_kin" "_law_a_kin" (defArgs s_law_a_kin) (defBody s_law_a_kin) (defScope s_law_a_kin) .none kV_law_a_kin dc_law_a_kin pm_law_a_kin an_law_a_kin cd_law_a_kin ct_law_a_kin), sl_law_a_kin⟩) (c_law_a_kin : PySem.W.codeIn K cd_law_a_kin "_law_a_kin" = true) (k_law_a_kin : PySem.W.keepIn K (.ref f_law_a_kin) = true)
    (a_law_due_kin : PySem.W.nsIn K mainGlobals "_law_due_kin" = some (some (.ref f_law_due_kin))) (l_law_due_kin : K.lookup f_law_due_kin = some ⟨oc_law_due_kin, od_law_due_kin, .func (PySem.W.fnOf "_law_due_kin" "_law_due_kin" (defArgs s_law_due_kin) (defBody s_law_due_kin) (defScope s_law_due_kin) .none kV_law_due_kin dc_law_due_kin pm_law_due_kin an_law_due_kin cd_law_due_kin ct_law_due_kin), sl_law_due_kin⟩) (c_law_due_kin : PySem.W.codeIn K cd_law_due_kin "_law_due_kin" = true) (k_law_due_kin : PySem.W.keepIn K (.ref f_law_due_kin) = true)
    (a_refuse_no_piece : PySem.W.nsIn K mainGlobals "refuse_no_piece" = some (some (.ref f_refuse_no_piece))) (l_refuse_no_piece : K.lookup f_refuse_no_piece = some ⟨oc_refuse_no_piece, od_refuse_no_piece, .func (PySem.W.fnOf "refuse_no_piece" "refuse_no_piece" (defArgs s_refuse_no_piece) (defBody s_refuse_no_piece) (defScope s_refuse_no_piece) .none kV_refuse_no_piece dc_refuse_no_piece pm_refuse_no_piece an_refuse_no_piece cd_refuse_no_piece ct_refuse_no_piece), sl_refuse_no_piece⟩) (c_refuse_no_piece : PySem.W.codeIn K cd_refuse_no_piece "refuse_no_piece" = true) (k_refuse_no_piece : PySem.W.keepIn K (.ref f_refuse_no_piece) = true)
    (a_dragged : PySem.W.nsIn K mainGlobals "dragged" = some (some (.ref f_dragged))) (l_dragged : K.lookup f_dragged = some ⟨oc_dragged, od_dragged, .func (PySem.W.fnOf "dragged" "dragged" (defArgs s_dragged) (defBody s_dragged) (defScope s_dragged) .none kV_dragged dc_dragged pm_dragged an_dragged cd_dragged ct_dragged), sl_dragged⟩) (c_dragged : PySem.W.codeIn K cd_dragged "dragged" = true) (k_dragged : PySem.W.keepIn K (.ref f_dragged) = true)
    (a_all_dragged : PySem.W.nsIn K mainGlobals "all_dragged" = some (some (.ref f_all_dragged))) (l_all_dragged : K.lookup f_all_dragged = some ⟨oc_all_dragged, od_all_dragged, .func (PySem.W.fnOf "all_dragged" "all_dragged" (defArgs s_all_dragged) (defBody s_all_dragged) (defScope s_all_dragged) .none kV_all_dragged dc_all_dragged pm_all_dragged an_all_dragged cd_all_dragged ct_all_dragged), sl_all_dragged⟩) (c_all_dragged : PySem.W.codeIn K cd_all_dragged "all_dragged" = true) (k_all_dragged : PySem.W.keepIn K (.ref f_all_dragged) = true)
    (a_moved : PySem.W.nsIn K mainGlobals "moved" = some (some (.ref f_moved))) (l_moved : K.lookup f_moved = some ⟨oc_moved, od_moved, .func (PySem.W.fnOf "moved" "moved" (defArgs s_moved) (defBody s_moved) (defScope s_moved) .none kV_moved dc_moved pm_moved an_moved cd_moved ct_moved), sl_moved⟩) (c_moved : PySem.W.codeIn K cd_moved "moved" = true) (k_moved : PySem.W.keepIn K (.ref f_moved) = true)
    (a_is_train : PySem.W.nsIn K mainGlobals "is_train" = some (some (.ref f_is_train))) (l_is_train : K.lookup f_is_train = some ⟨oc_is_train, od_is_train, .func (PySem.W.fnOf "is_train" "is_train" (defArgs s_is_train) (defBody s_is_train) (defScope s_is_train) .none kV_is_train dc_is_train pm_is_train an_is_train cd_is_train ct_is_train), sl_is_train⟩) (c_is_train : PySem.W.codeIn K cd_is_train "is_train" = true) (k_is_train : PySem.W.keepIn K (.ref f_is_train) = true)
    (a_keeps_plays : PySem.W.nsIn K mainGlobals "keeps_plays" = some (some (.ref f_keeps_plays))) (l_keeps_plays : K.lookup f_keeps_plays = some ⟨oc_keeps_plays, od_keeps_plays, .func (PySem.W.fnOf "keeps_plays" "keeps_plays" (defArgs s_keeps_plays) (defBody s_keeps_plays) (defScope s_keeps_plays) .none kV_keeps_plays dc_keeps_plays pm_keeps_plays an_keeps_plays cd_keeps_plays ct_keeps_plays), sl_keeps_plays⟩) (c_keeps_plays : PySem.W.codeIn K cd_keeps_plays "keeps_plays" = true) (k_keeps_plays : PySem.W.keepIn K (.ref f_keeps_plays) = true)
    (a_refuse_no_train : PySem.W.nsIn K mainGlobals "refuse_no_train" = some (some (.ref f_refuse_no_train))) (l_refuse_no_train : K.lookup f_refuse_no_train = some ⟨oc_refuse_no_train, od_refuse_no_train, .func (PySem.W.fnOf "refuse_no_train" "refuse_no_train" (defArgs s_refuse_no_train) (defBody s_refuse_no_train) (defScope s_refuse_no_train) .none kV_refuse_no_train dc_refuse_no_train pm_refuse_no_train an_refuse_no_train cd_refuse_no_train ct_refuse_no_train), sl_refuse_no_train⟩) (c_refuse_no_train : PySem.W.codeIn K cd_refuse_no_train "refuse_no_train" = true) (k_refuse_no_train : PySem.W.keepIn K (.ref f_refuse_no_train) = true)
    (a_is_stand : PySem.W.nsIn K mainGlobals "is_stand" = some (some (.ref f_is_stand))) (l_is_stand : K.lookup f_is_stand = some ⟨oc_is_stand, od_is_stand, .func (PySem.W.fnOf "is_stand" "is_stand" (defArgs s_is_stand) (defBody s_is_stand) (defScope s_is_stand) .none kV_is_stand dc_is_stand pm_is_stand an_is_stand cd_is_stand ct_is_stand), sl_is_stand⟩) (c_is_stand : PySem.W.codeIn K cd_is_stand "is_stand" = true) (k_is_stand : PySem.W.keepIn K (.ref f_is_stand) = true)
    (a_refuse_no_stand : PySem.W.nsIn K mainGlobals "refuse_no_stand" = some (some (.ref f_refuse_no_stand))) (l_refuse_no_stand : K.lookup f_refuse_no_stand = some ⟨oc_refuse_no_stand, od_refuse_no_stand, .func (PySem.W.fnOf "refuse_no_stand" "refuse_no_stand" (defArgs s_refuse_no_stand) (defBody s_refuse_no_stand) (defScope s_refuse_no_stand) .none kV_refuse_no_stand dc_refuse_no_stand pm_refuse_no_stand an_refuse_no_stand cd_refuse_no_stand ct_refuse_no_stand), sl_refuse_no_stand⟩) (c_refuse_no_stand : PySem.W.codeIn K cd_refuse_no_stand "refuse_no_stand" = true) (k_refuse_no_stand : PySem.W.keepIn K (.ref f_refuse_no_stand) = true)
    (a_grabs_of : PySem.W.nsIn K mainGlobals "grabs_of" = some (some (.ref f_grabs_of))) (l_grabs_of : K.lookup f_grabs_of = some ⟨oc_grabs_of, od_grabs_of, .func (PySem.W.fnOf "grabs_of" "grabs_of" (defArgs s_grabs_of) (defBody s_grabs_of) (defScope s_grabs_of) .none kV_grabs_of dc_grabs_of pm_grabs_of an_grabs_of cd_grabs_of ct_grabs_of), sl_grabs_of⟩) (c_grabs_of : PySem.W.codeIn K cd_grabs_of "grabs_of" = true) (k_grabs_of : PySem.W.keepIn K (.ref f_grabs_of) = true)
    (a_grabbed : PySem.W.nsIn K mainGlobals "grabbed" = some (some (.ref f_grabbed))) (l_grabbed : K.lookup f_grabbed = some ⟨oc_grabbed, od_grabbed, .func (PySem.W.fnOf "grabbed" "grabbed" (defArgs s_grabbed) (defBody s_grabbed) (defScope s_grabbed) .none kV_grabbed dc_grabbed pm_grabbed an_grabbed cd_grabbed ct_grabbed), sl_grabbed⟩) (c_grabbed : PySem.W.codeIn K cd_grabbed "grabbed" = true) (k_grabbed : PySem.W.keepIn K (.ref f_grabbed) = true)
    (a_law_dragged : PySem.W.nsIn K mainGlobals "_law_dragged" = some (some (.ref f_law_dragged))) (l_law_dragged : K.lookup f_law_dragged = some ⟨oc_law_dragged, od_law_dragged, .func (PySem.W.fnOf "_law_dragged" "_law_dragged" (defArgs s_law_dragged) (defBody s_law_dragged) (defScope s_law_dragged) .none kV_law_dragged dc_law_dragged pm_law_dragged an_law_dragged cd_law_dragged ct_law_dragged), sl_law_dragged⟩) (c_law_dragged : PySem.W.codeIn K cd_law_dragged "_law_dragged" = true) (k_law_dragged : PySem.W.keepIn K (.ref f_law_dragged) = true)
    (a_law_a_behind : PySem.W.nsIn K mainGlobals "_law_a_behind" = some (some (.ref f_law_a_behind))) (l_law_a_behind : K.lookup f_law_a_behind = some ⟨oc_law_a_behind, od_law_a_behind, .func (PySem.W.fnOf "_law_a_behind" "_law_a_behind" (defArgs s_law_a_behind) (defBody s_law_a_behind) (defScope s_law_a_behind) .none kV_law_a_behind dc_law_a_behind pm_law_a_behind an_law_a_behind cd_law_a_behind ct_law_a_behind), sl_law_a_behind⟩) (c_law_a_behind : PySem.W.codeIn K cd_law_a_behind "_law_a_behind" = true) (k_law_a_behind : PySem.W.keepIn K (.ref f_law_a_behind) = true)
    (a_law_told : PySem.W.nsIn K mainGlobals "_law_told" = some (some (.ref f_law_told))) (l_law_told : K.lookup f_law_told = some ⟨oc_law_told, od_law_told, .func (PySem.W.fnOf "_law_told" "_law_told" (defArgs s_law_told) (defBody s_law_told) (defScope s_law_told) .none kV_law_told dc_law_told pm_law_told an_law_told cd_law_told ct_law_told), sl_law_told⟩) (c_law_told : PySem.W.codeIn K cd_law_told "_law_told" = true) (k_law_told : PySem.W.keepIn K (.ref f_law_told) = true)
    (a_law_train : PySem.W.nsIn K mainGlobals "_law_train" = some (some (.ref f_law_train))) (l_law_train : K.lookup f_law_train = some ⟨oc_law_train, od_law_train, .func (PySem.W.fnOf "_law_train" "_law_train" (defArgs s_law_train) (defBody s_law_train) (defScope s_law_train) .none kV_law_train dc_law_train pm_law_train an_law_train cd_law_train ct_law_train), sl_law_train⟩) (c_law_train : PySem.W.codeIn K cd_law_train "_law_train" = true) (k_law_train : PySem.W.keepIn K (.ref f_law_train) = true)
    (a_law : PySem.W.nsIn K mainGlobals "law" = some (some (.ref f_law))) (l_law : K.lookup f_law = some ⟨oc_law, od_law, .func (PySem.W.fnOf "law" "law" (defArgs s_law) (defBody s_law) (defScope s_law) .none kV_law dc_law pm_law an_law cd_law ct_law), sl_law⟩) (c_law : PySem.W.codeIn K cd_law "law" = true) (k_law : PySem.W.keepIn K (.ref f_law) = true)
    (z_ValueError : PySem.W.nsIn K mainGlobals "ValueError" = some none)
    (z_abs : PySem.W.nsIn K mainGlobals "abs" = some none)
    (z_bool : PySem.W.nsIn K mainGlobals "bool" = some none)
    (z_int : PySem.W.nsIn K mainGlobals "int" = some none)
    (z_isinstance : PySem.W.nsIn K mainGlobals "isinstance" = some none)
    (z_len : PySem.W.nsIn K mainGlobals "len" = some none)
    (z_list : PySem.W.nsIn K mainGlobals "list" = some none)
    (z_max : PySem.W.nsIn K mainGlobals "max" = some none)
    (z_min : PySem.W.nsIn K mainGlobals "min" = some none)
    (z_range : PySem.W.nsIn K mainGlobals "range" = some none)
    (z_sum : PySem.W.nsIn K mainGlobals "sum" = some none)
    (z_tuple : PySem.W.nsIn K mainGlobals "tuple" = some none)
    (z_zip : PySem.W.nsIn K mainGlobals "zip" = some none)
    (g_MOST_PLAYS : PySem.W.nsIn K mainGlobals "MOST_PLAYS" = some (some (.int 12 t_MOST_PLAYS)))
    (n_TrainError : PySem.W.nsIn K mainGlobals "TrainError" = some (some (.ref c_TrainError)))
    (n_NoTrain : PySem.W.nsIn K mainGlobals "NoTrain" = some (some (.ref c_NoTrain)))
    (n_NoStand : PySem.W.nsIn K mainGlobals "NoStand" = some (some (.ref c_NoStand)))
    (n_NoPaper : PySem.W.nsIn K mainGlobals "NoPaper" = some (some (.ref c_NoPaper)))
    (n_NoBox : PySem.W.nsIn K mainGlobals "NoBox" = some (some (.ref c_NoBox)))
    (n_NoSwitch : PySem.W.nsIn K mainGlobals "NoSwitch" = some (some (.ref c_NoSwitch)))
    (n_NoPlace : PySem.W.nsIn K mainGlobals "NoPlace" = some (some (.ref c_NoPlace)))
    (n_NoTable : PySem.W.nsIn K mainGlobals "NoTable" = some (some (.ref c_NoTable)))
    (n_NoText : PySem.W.nsIn K mainGlobals "NoText" = some (some (.ref c_NoText)))
    (n_NoRow : PySem.W.nsIn K mainGlobals "NoRow" = some (some (.ref c_NoRow)))
    (n_NoPiece : PySem.W.nsIn K mainGlobals "NoPiece" = some (some (.ref c_NoPiece)))
    (n_NothingLeft : PySem.W.nsIn K mainGlobals "NothingLeft" = some (some (.ref c_NothingLeft)))
    (n_TooMany : PySem.W.nsIn K mainGlobals "TooMany" = some (some (.ref c_TooMany)))
    (x_NoTrain : PySem.W.excIn K c_NoTrain [.type "ValueError", .type "Exception", .type "BaseException", .type "object"] "ValueError.__new__" = true)
    (e_NoTrain : PySem.W.exmOne K (.ref c_NoTrain) (.ref c_TrainError) = some true)
    (i_NoTrain_ga : PySem.W.findIn K (.ref c_NoTrain) "__getattribute__" = some (some (.builtin "BaseException.__getattribute__")))
    (i_NoTrain_gt : PySem.W.findIn K (.ref c_NoTrain) "__getattr__" = some none)
    (i_NoTrain_mb : PySem.W.mroIn K c_NoTrain (.type "BaseException") = some true)
    (i_NoTrain_hd : PySem.W.hasDictIn K c_NoTrain = true)
    (i_NoTrain_ca : PySem.W.findIn K (.ref c_NoTrain) "__class__" = some (some (.builtin "object.__class__")))
    (i_NoTrain_sp : PySem.W.specialIn K (.builtin "object.__class__") "__get__" = some (some (.builtin "getset_descriptor.__get__")))
    (i_NoTrain_tk : PySem.W.takesIn K (.builtin "object.__class__") = some true)
    (i_NoTrain_mr : PySem.W.mroIn K c_NoTrain (.type "object") = some true)
    (k_NoTrain_NoTrain : PySem.W.kitOne K (.ref c_NoTrain) (.ref c_NoTrain) = some true)
    (k_NoTrain_NoStand : PySem.W.kitOne K (.ref c_NoTrain) (.ref c_NoStand) = some false)
    (k_NoTrain_NoPaper : PySem.W.kitOne K (.ref c_NoTrain) (.ref c_NoPaper) = some false)
    (k_NoTrain_NoBox : PySem.W.kitOne K (.ref c_NoTrain) (.ref c_NoBox) = some false)
    (k_NoTrain_NoSwitch : PySem.W.kitOne K (.ref c_NoTrain) (.ref c_NoSwitch) = some false)
    (k_NoTrain_NoPlace : PySem.W.kitOne K (.ref c_NoTrain) (.ref c_NoPlace) = some false)
    (k_NoTrain_NoTable : PySem.W.kitOne K (.ref c_NoTrain) (.ref c_NoTable) = some false)
    (k_NoTrain_NoText : PySem.W.kitOne K (.ref c_NoTrain) (.ref c_NoText) = some false)
    (k_NoTrain_NoRow : PySem.W.kitOne K (.ref c_NoTrain) (.ref c_NoRow) = some false)
    (k_NoTrain_NoPiece : PySem.W.kitOne K (.ref c_NoTrain) (.ref c_NoPiece) = some false)
    (k_NoTrain_NothingLeft : PySem.W.kitOne K (.ref c_NoTrain) (.ref c_NothingLeft) = some false)
    (k_NoTrain_TooMany : PySem.W.kitOne K (.ref c_NoTrain) (.ref c_TooMany) = some false)
    (k_NoTrain_ValueError : PySem.W.kitOne K (.ref c_NoTrain) (.type "ValueError") = some true)
    (x_NoStand : PySem.W.excIn K c_NoStand [.type "ValueError", .type "Exception", .type "BaseException", .type "object"] "ValueError.__new__" = true)
    (e_NoStand : PySem.W.exmOne K (.ref c_NoStand) (.ref c_TrainError) = some true)
    (i_NoStand_ga : PySem.W.findIn K (.ref c_NoStand) "__getattribute__" = some (some (.builtin "BaseException.__getattribute__")))
    (i_NoStand_gt : PySem.W.findIn K (.ref c_NoStand) "__getattr__" = some none)
    (i_NoStand_mb : PySem.W.mroIn K c_NoStand (.type "BaseException") = some true)
    (i_NoStand_hd : PySem.W.hasDictIn K c_NoStand = true)
    (i_NoStand_ca : PySem.W.findIn K (.ref c_NoStand) "__class__" = some (some (.builtin "object.__class__")))
    (i_NoStand_sp : PySem.W.specialIn K (.builtin "object.__class__") "__get__" = some (some (.builtin "getset_descriptor.__get__")))
    (i_NoStand_tk : PySem.W.takesIn K (.builtin "object.__class__") = some true)
    (i_NoStand_mr : PySem.W.mroIn K c_NoStand (.type "object") = some true)
    (k_NoStand_NoTrain : PySem.W.kitOne K (.ref c_NoStand) (.ref c_NoTrain) = some false)
    (k_NoStand_NoStand : PySem.W.kitOne K (.ref c_NoStand) (.ref c_NoStand) = some true)
    (k_NoStand_NoPaper : PySem.W.kitOne K (.ref c_NoStand) (.ref c_NoPaper) = some false)
    (k_NoStand_NoBox : PySem.W.kitOne K (.ref c_NoStand) (.ref c_NoBox) = some false)
    (k_NoStand_NoSwitch : PySem.W.kitOne K (.ref c_NoStand) (.ref c_NoSwitch) = some false)
    (k_NoStand_NoPlace : PySem.W.kitOne K (.ref c_NoStand) (.ref c_NoPlace) = some false)
    (k_NoStand_NoTable : PySem.W.kitOne K (.ref c_NoStand) (.ref c_NoTable) = some false)
    (k_NoStand_NoText : PySem.W.kitOne K (.ref c_NoStand) (.ref c_NoText) = some false)
    (k_NoStand_NoRow : PySem.W.kitOne K (.ref c_NoStand) (.ref c_NoRow) = some false)
    (k_NoStand_NoPiece : PySem.W.kitOne K (.ref c_NoStand) (.ref c_NoPiece) = some false)
    (k_NoStand_NothingLeft : PySem.W.kitOne K (.ref c_NoStand) (.ref c_NothingLeft) = some false)
    (k_NoStand_TooMany : PySem.W.kitOne K (.ref c_NoStand) (.ref c_TooMany) = some false)
    (k_NoStand_ValueError : PySem.W.kitOne K (.ref c_NoStand) (.type "ValueError") = some true)
    (x_NoPiece : PySem.W.excIn K c_NoPiece [.type "ValueError", .type "Exception", .type "BaseException", .type "object"] "ValueError.__new__" = true)
    (e_NoPiece : PySem.W.exmOne K (.ref c_NoPiece) (.ref c_TrainError) = some true)
    (i_NoPiece_ga : PySem.W.findIn K (.ref c_NoPiece) "__getattribute__" = some (some (.builtin "BaseException.__getattribute__")))
    (i_NoPiece_gt : PySem.W.findIn K (.ref c_NoPiece) "__getattr__" = some none)
    (i_NoPiece_mb : PySem.W.mroIn K c_NoPiece (.type "BaseException") = some true)
    (i_NoPiece_hd : PySem.W.hasDictIn K c_NoPiece = true)
    (i_NoPiece_ca : PySem.W.findIn K (.ref c_NoPiece) "__class__" = some (some (.builtin "object.__class__")))
    (i_NoPiece_sp : PySem.W.specialIn K (.builtin "object.__class__") "__get__" = some (some (.builtin "getset_descriptor.__get__")))
    (i_NoPiece_tk : PySem.W.takesIn K (.builtin "object.__class__") = some true)
    (i_NoPiece_mr : PySem.W.mroIn K c_NoPiece (.type "object") = some true)
    (k_NoPiece_NoTrain : PySem.W.kitOne K (.ref c_NoPiece) (.ref c_NoTrain) = some false)
    (k_NoPiece_NoStand : PySem.W.kitOne K (.ref c_NoPiece) (.ref c_NoStand) = some false)
    (k_NoPiece_NoPaper : PySem.W.kitOne K (.ref c_NoPiece) (.ref c_NoPaper) = some false)
    (k_NoPiece_NoBox : PySem.W.kitOne K (.ref c_NoPiece) (.ref c_NoBox) = some false)
    (k_NoPiece_NoSwitch : PySem.W.kitOne K (.ref c_NoPiece) (.ref c_NoSwitch) = some false)
    (k_NoPiece_NoPlace : PySem.W.kitOne K (.ref c_NoPiece) (.ref c_NoPlace) = some false)
    (k_NoPiece_NoTable : PySem.W.kitOne K (.ref c_NoPiece) (.ref c_NoTable) = some false)
    (k_NoPiece_NoText : PySem.W.kitOne K (.ref c_NoPiece) (.ref c_NoText) = some false)
    (k_NoPiece_NoRow : PySem.W.kitOne K (.ref c_NoPiece) (.ref c_NoRow) = some false)
    (k_NoPiece_NoPiece : PySem.W.kitOne K (.ref c_NoPiece) (.ref c_NoPiece) = some true)
    (k_NoPiece_NothingLeft : PySem.W.kitOne K (.ref c_NoPiece) (.ref c_NothingLeft) = some false)
    (k_NoPiece_TooMany : PySem.W.kitOne K (.ref c_NoPiece) (.ref c_TooMany) = some false)
    (k_NoPiece_ValueError : PySem.W.kitOne K (.ref c_NoPiece) (.type "ValueError") = some true) :
    ∃ fd : FuncData, (∀ (s : Shared) (v : Value), BindsTo s fd ⟨[v], []⟩ [("script", v)]) ∧ ∀ base : Heap, K.In base → base.Ns mainGlobals mg → FnOk l.prog w K mg base CX0 8 fa fd ["script"] (spLaw K) := by
  have e := hfa.symm.trans (PySem.W.mg_of X G a_law)
  cases e
  have T : Txt mg := ⟨PySem.W.mg_none_of X G z_ValueError, PySem.W.mg_none_of X G z_abs, PySem.W.mg_none_of X G z_bool, PySem.W.mg_none_of X G z_int, PySem.W.mg_none_of X G z_isinstance, PySem.W.mg_none_of X G z_len, PySem.W.mg_none_of X G z_list, PySem.W.mg_none_of X G z_max, PySem.W.mg_none_of X G z_min, PySem.W.mg_none_of X G z_range, PySem.W.mg_none_of X G z_sum, PySem.W.mg_none_of X G z_tuple, PySem.W.mg_none_of X G z_zip, ⟨_, PySem.W.mg_of X G g_MOST_PLAYS⟩⟩
  let Z : Cls K mg := ⟨c_TrainError, c_NoTrain, c_NoStand, c_NoPaper, c_NoBox, c_NoSwitch, c_NoPlace, c_NoTable, c_NoText, c_NoRow, c_NoPiece, c_NothingLeft, c_TooMany, PySem.W.mg_of X G n_TrainError, PySem.W.mg_of X G n_NoTrain, PySem.W.mg_of X G n_NoStand, PySem.W.mg_of X G n_NoPaper, PySem.W.mg_of X G n_NoBox, PySem.W.mg_of X G n_NoSwitch, PySem.W.mg_of X G n_NoPlace, PySem.W.mg_of X G n_NoTable, PySem.W.mg_of X G n_NoText, PySem.W.mg_of X G n_NoRow, PySem.W.mg_of X G n_NoPiece, PySem.W.mg_of X G n_NothingLeft, PySem.W.mg_of X G n_TooMany, x_NoTrain, e_NoTrain, i_NoTrain_ga, i_NoTrain_gt, i_NoTrain_mb, i_NoTrain_hd, i_NoTrain_ca, i_NoTrain_sp, i_NoTrain_tk, i_NoTrain_mr, k_NoTrain_NoTrain, k_NoTrain_NoStand, k_NoTrain_NoPaper, k_NoTrain_NoBox, k_NoTrain_NoSwitch, k_NoTrain_NoPlace, k_NoTrain_NoTable, k_NoTrain_NoText, k_NoTrain_NoRow, k_NoTrain_NoPiece, k_NoTrain_NothingLeft, k_NoTrain_TooMany, k_NoTrain_ValueError, x_NoStand, e_NoStand, i_NoStand_ga, i_NoStand_gt, i_NoStand_mb, i_NoStand_hd, i_NoStand_ca, i_NoStand_sp, i_NoStand_tk, i_NoStand_mr, k_NoStand_NoTrain, k_NoStand_NoStand, k_NoStand_NoPaper, k_NoStand_NoBox, k_NoStand_NoSwitch, k_NoStand_NoPlace, k_NoStand_NoTable, k_NoStand_NoText, k_NoStand_NoRow, k_NoStand_NoPiece, k_NoStand_NothingLeft, k_NoStand_TooMany, k_NoStand_ValueError, x_NoPiece, e_NoPiece, i_NoPiece_ga, i_NoPiece_gt, i_NoPiece_mb, i_NoPiece_hd, i_NoPiece_ca, i_NoPiece_sp, i_NoPiece_tk, i_NoPiece_mr, k_NoPiece_NoTrain, k_NoPiece_NoStand, k_NoPiece_NoPaper, k_NoPiece_NoBox, k_NoPiece_NoSwitch, k_NoPiece_NoPlace, k_NoPiece_NoTable, k_NoPiece_NoText, k_NoPiece_NoRow, k_NoPiece_NoPiece, k_NoPiece_NothingLeft, k_NoPiece_TooMany, k_NoPiece_ValueError⟩
  have F_law_cell_at := fun_mk (st := s_law_cell_at) l_law_cell_at c_law_cell_at k_law_cell_at
  have D_law_cell_at : Def K mg "_law_cell_at" s_law_cell_at := ⟨_, _, F_law_cell_at, PySem.W.mg_of X G a_law_cell_at⟩
  have F_law_draws := fun_mk (st := s_law_draws) l_law_draws c_law_draws k_law_draws
  have D_law_draws : Def K mg "_law_draws" s_law_draws := ⟨_, _, F_law_draws, PySem.W.mg_of X G a_law_draws⟩
  have F_law_whole := fun_mk (st := s_law_whole) l_law_whole c_law_whole k_law_whole
  have D_law_whole : Def K mg "_law_whole" s_law_whole := ⟨_, _, F_law_whole, PySem.W.mg_of X G a_law_whole⟩
  have F_law_a_kin := fun_mk (st := s_law_a_kin) l_law_a_kin c_law_a_kin k_law_a_kin
  have D_law_a_kin : Def K mg "_law_a_kin" s_law_a_kin := ⟨_, _, F_law_a_kin, PySem.W.mg_of X G a_law_a_kin⟩
  have F_law_due_kin := fun_mk (st := s_law_due_kin) l_law_due_kin c_law_due_kin k_law_due_kin
  have D_law_due_kin : Def K mg "_law_due_kin" s_law_due_kin := ⟨_, _, F_law_due_kin, PySem.W.mg_of X G a_law_due_kin⟩
  have F_refuse_no_piece := fun_mk (st := s_refuse_no_piece) l_refuse_no_piece c_refuse_no_piece k_refuse_no_piece
  have D_refuse_no_piece : Def K mg "refuse_no_piece" s_refuse_no_piece := ⟨_, _, F_refuse_no_piece, PySem.W.mg_of X G a_refuse_no_piece⟩
  have F_dragged := fun_mk (st := s_dragged) l_dragged c_dragged k_dragged
  have D_dragged : Def K mg "dragged" s_dragged := ⟨_, _, F_dragged, PySem.W.mg_of X G a_dragged⟩
  have F_all_dragged := fun_mk (st := s_all_dragged) l_all_dragged c_all_dragged k_all_dragged
  have D_all_dragged : Def K mg "all_dragged" s_all_dragged := ⟨_, _, F_all_dragged, PySem.W.mg_of X G a_all_dragged⟩
  have F_moved := fun_mk (st := s_moved) l_moved c_moved k_moved
  have D_moved : Def K mg "moved" s_moved := ⟨_, _, F_moved, PySem.W.mg_of X G a_moved⟩
  have F_is_train := fun_mk (st := s_is_train) l_is_train c_is_train k_is_train
  have D_is_train : Def K mg "is_train" s_is_train := ⟨_, _, F_is_train, PySem.W.mg_of X G a_is_train⟩
  have F_keeps_plays := fun_mk (st := s_keeps_plays) l_keeps_plays c_keeps_plays k_keeps_plays
  have D_keeps_plays : Def K mg "keeps_plays" s_keeps_plays := ⟨_, _, F_keeps_plays, PySem.W.mg_of X G a_keeps_plays⟩
  have F_refuse_no_train := fun_mk (st := s_refuse_no_train) l_refuse_no_train c_refuse_no_train k_refuse_no_train
  have D_refuse_no_train : Def K mg "refuse_no_train" s_refuse_no_train := ⟨_, _, F_refuse_no_train, PySem.W.mg_of X G a_refuse_no_train⟩
  have F_is_stand := fun_mk (st := s_is_stand) l_is_stand c_is_stand k_is_stand
  have D_is_stand : Def K mg "is_stand" s_is_stand := ⟨_, _, F_is_stand, PySem.W.mg_of X G a_is_stand⟩
  have F_refuse_no_stand := fun_mk (st := s_refuse_no_stand) l_refuse_no_stand c_refuse_no_stand k_refuse_no_stand
  have D_refuse_no_stand : Def K mg "refuse_no_stand" s_refuse_no_stand := ⟨_, _, F_refuse_no_stand, PySem.W.mg_of X G a_refuse_no_stand⟩
  have F_grabs_of := fun_mk (st := s_grabs_of) l_grabs_of c_grabs_of k_grabs_of
  have D_grabs_of : Def K mg "grabs_of" s_grabs_of := ⟨_, _, F_grabs_of, PySem.W.mg_of X G a_grabs_of⟩
  have F_grabbed := fun_mk (st := s_grabbed) l_grabbed c_grabbed k_grabbed
  have D_grabbed : Def K mg "grabbed" s_grabbed := ⟨_, _, F_grabbed, PySem.W.mg_of X G a_grabbed⟩
  have F_law_dragged := fun_mk (st := s_law_dragged) l_law_dragged c_law_dragged k_law_dragged
  have D_law_dragged : Def K mg "_law_dragged" s_law_dragged := ⟨_, _, F_law_dragged, PySem.W.mg_of X G a_law_dragged⟩
  have F_law_a_behind := fun_mk (st := s_law_a_behind) l_law_a_behind c_law_a_behind k_law_a_behind
  have D_law_a_behind : Def K mg "_law_a_behind" s_law_a_behind := ⟨_, _, F_law_a_behind, PySem.W.mg_of X G a_law_a_behind⟩
  have F_law_told := fun_mk (st := s_law_told) l_law_told c_law_told k_law_told
  have D_law_told : Def K mg "_law_told" s_law_told := ⟨_, _, F_law_told, PySem.W.mg_of X G a_law_told⟩
  have F_law_train := fun_mk (st := s_law_train) l_law_train c_law_train k_law_train
  have D_law_train : Def K mg "_law_train" s_law_train := ⟨_, _, F_law_train, PySem.W.mg_of X G a_law_train⟩
  have F_law := fun_mk (st := s_law) l_law c_law k_law
  have D_law : Def K mg "law" s_law := ⟨_, _, F_law, PySem.W.mg_of X G a_law⟩
  refine ⟨PySem.W.fnOf "law" "law" (defArgs s_law) (defBody s_law) (defScope s_law) .none kV_law dc_law pm_law an_law cd_law ct_law, fun s v => .of_eq rfl, fun base _ _ => ?_⟩
  have C_law_cell_at := ok_law_cell_at (P := l.prog) (w := w) (base := base) T D_law_cell_at 
  have C_law_draws := ok_law_draws (P := l.prog) (w := w) (base := base) T D_law_draws 
  have C_law_whole := ok_law_whole (P := l.prog) (w := w) (base := base) T D_law_whole 
  have C_law_a_kin := ok_law_a_kin (P := l.prog) (w := w) (base := base) T Z D_law_a_kin 
  have C_law_due_kin := ok_law_due_kin (P := l.prog) (w := w) (base := base) T D_law_due_kin 
  have C_refuse_no_piece := ok_refuse_no_piece (P := l.prog) (w := w) (base := base) T Z D_refuse_no_piece 
  have C_dragged := ok_dragged (P := l.prog) (w := w) (base := base) T D_dragged 
  have C_all_dragged := ok_all_dragged (P := l.prog) (w := w) (base := base) T D_all_dragged C_dragged
  have C_moved := ok_moved (P := l.prog) (w := w) (base := base) T D_moved C_all_dragged
  have C_is_train := ok_is_train (P := l.prog) (w := w) (base := base) T D_is_train 
  have C_keeps_plays := ok_keeps_plays (P := l.prog) (w := w) (base := base) T D_keeps_plays 
  have C_refuse_no_train := ok_refuse_no_train (P := l.prog) (w := w) (base := base) T Z D_refuse_no_train C_is_train
  have C_is_stand := ok_is_stand (P := l.prog) (w := w) (base := base) T Z D_is_stand C_refuse_no_train C_keeps_plays
  have C_refuse_no_stand := ok_refuse_no_stand (P := l.prog) (w := w) (base := base) T Z D_refuse_no_stand C_is_stand
  have C_grabs_of := ok_grabs_of (P := l.prog) (w := w) (base := base) T Z D_grabs_of C_refuse_no_stand C_refuse_no_piece C_moved
  have C_grabbed := ok_grabbed (P := l.prog) (w := w) (base := base) T Z D_grabbed C_grabs_of
  have C_law_dragged := ok_law_dragged (P := l.prog) (w := w) (base := base) T D_law_dragged 
  have C_law_a_behind := ok_law_a_behind (P := l.prog) (w := w) (base := base) T D_law_a_behind C_law_dragged
  have C_law_told := ok_law_told (P := l.prog) (w := w) (base := base) T Z D_law_told C_grabbed C_grabs_of C_law_a_kin
  have C_law_train := ok_law_train (P := l.prog) (w := w) (base := base) T D_law_train C_law_draws C_law_cell_at
  exact ok_law F_law T Z C_law_train C_law_cell_at C_law_draws C_law_told C_law_a_behind C_law_whole C_law_due_kin
theorem walk {l : PySem.W.OpenLaw} {q : Program} {loose : List Str} {XP : (Str → Option Value) → Heap → Prop} {YP : World → Heap → Prop} {d : DefRec} {K : Params → PySem.W.Frag} (hn : l.most = some 63) (hdf : d.params.defaults = [])
    (hY : ∀ (w : World) (h : Heap), YP w h → (K w.params).In h)
    (F : ∀ (w : World) (mg : Str → Option Value) (fa : Addr) (h : Heap), (K w.params).In h → h.Ns mainGlobals mg → mg d.name = some (.ref fa) →
      ∃ fd : FuncData, (∀ (s : Shared) (u : Value), BindsTo s fd ⟨[u], []⟩ [("script", u)]) ∧ ∀ base : Heap, (K w.params).In base → base.Ns mainGlobals mg → FnOk l.prog w (K w.params) mg base CX0 8 fa fd ["script"] (spLaw (K w.params))) :
    PySem.W.WalkO q loose XP YP l.row.toRowW d [] (fun f vs => PySem.call f vs) :=
  L2.walk_of (n := 63) (k := 8) (x := "script") (CX := fun _ => CX0) (sp := fun w => spLaw (K w.params)) hn (by decide) hdf ⟨rfl, by decide, by decide⟩ hY F (fun _ _ a ns hl _ hS => ⟨a, ns, rfl, hS, hl, fun _ => rfl⟩) fun _ _ _ _ _ z => z
end My
theorem PySem.W.Fast.tw17724793588192538656 : True := trivial
theorem PySem.W.Fast.tw13721690289759431776 : True := trivial
theorem PySem.W.Fast.tw11962941828334467264 : True := trivial
theorem PySem.W.Fast.tw15663570492255747296 : True := trivial
theorem PySem.W.Fast.tw2315990880266391840 : True := trivial
theorem PySem.W.Fast.tw16103376231897067840 : True := trivial
theorem PySem.W.Fast.tw1867389967804836192 : True := trivial
theorem PySem.W.Fast.tw7681482718333145504 : True := trivial
theorem PySem.W.Fast.tw3019444627652419040 : True := trivial
theorem PySem.W.Fast.tw10858989042930422336 : True := trivial
theorem PySem.W.Fast.tw14995924166932871840 : True := trivial
theorem PySem.W.Fast.tw9429266024986437344 : True := trivial
theorem PySem.W.Fast.tw7523339063965366016 : True := trivial
theorem PySem.W.Fast.tw8252345715566203680 : True := trivial
theorem PySem.W.Fast.tw14717518035315793696 : True := trivial
theorem PySem.W.Fast.tw7071784881491944288 : True := trivial
theorem PySem.W.Fast.tw8918728262851687264 : True := trivial
theorem PySem.W.Fast.tw9803697635164498848 : True := trivial
theorem PySem.W.Fast.tw9172665938569545664 : True := trivial
theorem PySem.W.Fast.tw6783148212471695328 : True := trivial
theorem PySem.W.Fast.tw12464101660569245761 : True := trivial
theorem PySem.W.Fast.tw3693009134159603873 : True := trivial
theorem PySem.W.Fast.tw2505117951361804449 : True := trivial
theorem PySem.W.Fast.tw5716990707632735521 : True := trivial
theorem PySem.W.Fast.tw2286818819799322177 : True := trivial
theorem PySem.W.Fast.tw3777976210112274337 : True := trivial
theorem PySem.W.Fast.tw1011786386129117121 : True := trivial
theorem PySem.W.Fast.tw8978209428606008386 : True := trivial
theorem PySem.W.Fast.tw2824957500923272706 : True := trivial
theorem PySem.W.Fast.tw4787527257800197666 : True := trivial
theorem PySem.W.Fast.tw18184986092158476994 : True := trivial
theorem PySem.W.Fast.tw6097144529759975427 : True := trivial
theorem PySem.W.Fast.tw13210761673081650307 : True := trivial
theorem PySem.W.Fast.tw6592861909329864867 : True := trivial
theorem PySem.W.Fast.tw703669760357144835 : True := trivial
theorem PySem.W.Fast.tw388210259722626531 : True := trivial
theorem PySem.W.Fast.tw12688719802846486019 : True := trivial
theorem PySem.W.Fast.tw8762008994007719491 : True := trivial
theorem PySem.W.Fast.tw6085160874632644227 : True := trivial
theorem PySem.W.Fast.tw8281475069226388163 : True := trivial
theorem PySem.W.Fast.tw16186163238658487011 : True := trivial
theorem PySem.W.Fast.tw17421983020371908419 : True := trivial
theorem PySem.W.Fast.tw8656882210727954275 : True := trivial
theorem PySem.W.Fast.tw504944476737951812 : True := trivial
theorem PySem.W.Fast.tw12715013406825167108 : True := trivial
theorem PySem.W.Fast.tw10452671957855314276 : True := trivial
theorem PySem.W.Fast.tw17120568585720282468 : True := trivial
theorem PySem.W.Fast.tw16368394289844361860 : True := trivial
theorem PySem.W.Fast.tw709801114674870180 : True := trivial
theorem PySem.W.Fast.tw15815707643486664644 : True := trivial
theorem PySem.W.Fast.tw88737084019133477 : True := trivial
theorem PySem.W.Fast.tw16574386816428117061 : True := trivial
theorem PySem.W.Fast.tw12009472277503934629 : True := trivial
theorem PySem.W.Fast.tw5001236806697300197 : True := trivial
theorem PySem.W.Fast.tw4804991114922270981 : True := trivial
theorem PySem.W.Fast.tw13871928994500026725 : True := trivial
theorem PySem.W.Fast.tw1891016008692872645 : True := trivial
theorem PySem.W.Fast.tw4541010867791060517 : True := trivial
theorem PySem.W.Fast.tw3613820916580470341 : True := trivial
theorem PySem.W.Fast.tw17420897140286796453 : True := trivial
theorem PySem.W.Fast.tw14046397360040963845 : True := trivial
theorem PySem.W.Fast.tw8150795902504531781 : True := trivial
theorem PySem.W.Fast.tw9324712055597456261 : True := trivial
theorem PySem.W.Fast.tw8696458320796096389 : True := trivial
theorem PySem.W.Fast.tw6262082146085420965 : True := trivial
theorem PySem.W.Fast.tw9352156542527944645 : True := trivial
theorem PySem.W.Fast.tw6471868737286401989 : True := trivial
theorem PySem.W.Fast.tw16432995655247762405 : True := trivial
theorem PySem.W.Fast.tw9059455537369774342 : True := trivial
theorem PySem.W.Fast.tw10564137871486614886 : True := trivial
theorem PySem.W.Fast.tw13514562804447919462 : True := trivial
theorem PySem.W.Fast.tw973326488661447046 : True := trivial
theorem PySem.W.Fast.tw4217133135268939174 : True := trivial
theorem PySem.W.Fast.tw3099767246065390118 : True := trivial
theorem PySem.W.Fast.tw3972572479094770246 : True := trivial
theorem PySem.W.Fast.tw12104393901842467654 : True := trivial
theorem PySem.W.Fast.tw3743595923872084838 : True := trivial
theorem PySem.W.Fast.tw16556881052582566822 : True := trivial
theorem PySem.W.Fast.tw9471309531536190438 : True := trivial
theorem PySem.W.Fast.tw14592283006093890663 : True := trivial
theorem PySem.W.Fast.tw11541863265896566887 : True := trivial
theorem PySem.W.Fast.tw6444698956517602535 : True := trivial
theorem PySem.W.Fast.tw9630239582452875527 : True := trivial
theorem PySem.W.Fast.tw8814787573464745319 : True := trivial
theorem PySem.W.Fast.tw2132841962523496807 : True := trivial
theorem PySem.W.Fast.tw14262545785664865767 : True := trivial
theorem PySem.W.Fast.tw16543662812607990279 : True := trivial
theorem PySem.W.Fast.tw3769247900766491239 : True := trivial
theorem PySem.W.Fast.tw17696334076221921895 : True := trivial
theorem PySem.W.Fast.tw1903294503244606119 : True := trivial
theorem PySem.W.Fast.tw7106922280093224775 : True := trivial
theorem PySem.W.Fast.tw15988020149230600071 : True := trivial
theorem PySem.W.Fast.tw1411375125802789831 : True := trivial
theorem PySem.W.Fast.tw14595397280109086663 : True := trivial
theorem PySem.W.Fast.tw7951403509259404263 : True := trivial
theorem PySem.W.Fast.tw9332545529310165000 : True := trivial
theorem PySem.W.Fast.tw8924941309634256968 : True := trivial
theorem PySem.W.Fast.tw3035031099642028232 : True := trivial
theorem PySem.W.Fast.tw9990484753564807368 : True := trivial
theorem PySem.W.Fast.tw4505675571947177256 : True := trivial
theorem PySem.W.Fast.tw17963606337023383976 : True := trivial
theorem PySem.W.Fast.tw17532384352228223496 : True := trivial
theorem PySem.W.Fast.tw7287702514521267720 : True := trivial
theorem PySem.W.Fast.tw14853964836225356360 : True := trivial
theorem PySem.W.Fast.tw11481492394291337896 : True := trivial
theorem PySem.W.Fast.tw7103651469164778184 : True := trivial
theorem PySem.W.Fast.tw9611041410504063912 : True := trivial
theorem PySem.W.Fast.tw7243135451803653129 : True := trivial
theorem PySem.W.Fast.tw14380588018482178089 : True := trivial
theorem PySem.W.Fast.tw17337672073561837609 : True := trivial
theorem PySem.W.Fast.tw2467199935959440585 : True := trivial
theorem PySem.W.Fast.tw8983430688502103305 : True := trivial
theorem PySem.W.Fast.tw9355372610026168841 : True := trivial
theorem PySem.W.Fast.tw3599256807940394793 : True := trivial
theorem PySem.W.Fast.tw479152486701979465 : True := trivial
theorem PySem.W.Fast.tw13240240152173672297 : True := trivial
theorem PySem.W.Fast.tw4910293429903301513 : True := trivial
theorem PySem.W.Fast.tw1305900609238794217 : True := trivial
theorem PySem.W.Fast.tw3581549050948931561 : True := trivial
theorem PySem.W.Fast.tw16154470868270567498 : True := trivial
theorem PySem.W.Fast.tw14641942680185810122 : True := trivial
theorem PySem.W.Fast.tw4360494155749025098 : True := trivial
theorem PySem.W.Fast.tw8823644548099505482 : True := trivial
theorem PySem.W.Fast.tw1588123943166329226 : True := trivial
theorem PySem.W.Fast.tw14728635780094421674 : True := trivial
theorem PySem.W.Fast.tw11518664924030687082 : True := trivial
theorem PySem.W.Fast.tw18111205225482814539 : True := trivial
theorem PySem.W.Fast.tw13201911746974194827 : True := trivial
theorem PySem.W.Fast.tw9207448717802781835 : True := trivial
theorem PySem.W.Fast.tw8509952285494653131 : True := trivial
theorem PySem.W.Fast.tw55565847318798699 : True := trivial
theorem PySem.W.Fast.tw11609137959978057227 : True := trivial
theorem PySem.W.Fast.tw1154170583265774123 : True := trivial
theorem PySem.W.Fast.tw4171309891370502795 : True := trivial
theorem PySem.W.Fast.tw12604375170616956651 : True := trivial
theorem PySem.W.Fast.tw544369207480949483 : True := trivial
theorem PySem.W.Fast.tw16093096689222385515 : True := trivial
theorem PySem.W.Fast.tw9215660668795762700 : True := trivial
theorem PySem.W.Fast.tw943743812949378156 : True := trivial
theorem PySem.W.Fast.tw2497895041252199660 : True := trivial
theorem PySem.W.Fast.tw7936302963346806284 : True := trivial
theorem PySem.W.Fast.tw16389883039007934092 : True := trivial
theorem PySem.W.Fast.tw11467295849087206028 : True := trivial
theorem PySem.W.Fast.tw6154658054181887692 : True := trivial
theorem PySem.W.Fast.tw6779918669185211244 : True := trivial
theorem PySem.W.Fast.tw4102763174536994668 : True := trivial
theorem PySem.W.Fast.tw16761374668012710764 : True := trivial
theorem PySem.W.Fast.tw8387381872027030701 : True := trivial
theorem PySem.W.Fast.tw13429630882317764909 : True := trivial
theorem PySem.W.Fast.tw12156326463929140877 : True := trivial
theorem PySem.W.Fast.tw11631132834624176781 : True := trivial
theorem PySem.W.Fast.tw1445870978855022253 : True := trivial
theorem PySem.W.Fast.tw18414851942285773517 : True := trivial
theorem PySem.W.Fast.tw14563363014899071725 : True := trivial
theorem PySem.W.Fast.tw14872784355196129101 : True := trivial
theorem PySem.W.Fast.tw14295485885713037165 : True := trivial
theorem PySem.W.Fast.tw9269535767083284461 : True := trivial
theorem PySem.W.Fast.tw14119439845631739885 : True := trivial
theorem PySem.W.Fast.tw7126113910834867310 : True := trivial
theorem PySem.W.Fast.tw5468677080733237358 : True := trivial
theorem PySem.W.Fast.tw8344709220573499630 : True := trivial
theorem PySem.W.Fast.tw14828625582192336110 : True := trivial
theorem PySem.W.Fast.tw7957922108052941102 : True := trivial
theorem PySem.W.Fast.tw14554168216152099150 : True := trivial
theorem PySem.W.Fast.tw2886657896618179982 : True := trivial
theorem PySem.W.Fast.tw12512133572523023822 : True := trivial
theorem PySem.W.Fast.tw14447342778975578606 : True := trivial
theorem PySem.W.Fast.tw18000323869012615662 : True := trivial
theorem PySem.W.Fast.tw582532186934015566 : True := trivial
theorem PySem.W.Fast.tw7901813298902767182 : True := trivial
theorem PySem.W.Fast.tw1691170080651697806 : True := trivial
theorem PySem.W.Fast.tw10828617117399853710 : True := trivial
theorem PySem.W.Fast.tw6120603800618430222 : True := trivial
theorem PySem.W.Fast.tw10530815789023833998 : True := trivial
theorem PySem.W.Fast.tw685973772965921678 : True := trivial
theorem PySem.W.Fast.tw16783612652777265038 : True := trivial
theorem PySem.W.Fast.tw2786580545545538510 : True := trivial
theorem PySem.W.Fast.tw10469595724855078862 : True := trivial
theorem PySem.W.Fast.tw2709043572512407534 : True := trivial
theorem PySem.W.Fast.tw17606156438222995503 : True := trivial
theorem PySem.W.Fast.tw514982298613427279 : True := trivial
theorem PySem.W.Fast.tw2610469393504759983 : True := trivial
theorem PySem.W.Fast.tw15540556748248637711 : True := trivial
theorem PySem.W.Fast.tw11867527801013205327 : True := trivial
theorem PySem.W.Fast.tw818602088370907471 : True := trivial
theorem PySem.W.Fast.tw6571025344812639695 : True := trivial
theorem PySem.W.Fast.tw14837861930746160655 : True := trivial
theorem PySem.W.Fast.tw3331644295310832175 : True := trivial
theorem PySem.W.Fast.tw15230218623740051023 : True := trivial
theorem PySem.W.Fast.tw14802776983792276079 : True := trivial
theorem PySem.W.Fast.tw12409410144901482191 : True := trivial
theorem PySem.W.Fast.tw14043355021561846511 : True := trivial
theorem PySem.W.Fast.tw17449282483546076943 : True := trivial
theorem PySem.W.Fast.tw13955730447960320847 : True := trivial
theorem PySem.W.Fast.tw10611789789033727919 : True := trivial
theorem PySem.W.Fast.tw16656943149342794671 : True := trivial
theorem PySem.W.Fast.tw9304579651828990032 : True := trivial
theorem PySem.W.Fast.tw15927870362763287664 : True := trivial
theorem PySem.W.Fast.tw10339254530834391248 : True := trivial
theorem PySem.W.Fast.tw4813852258593313040 : True := trivial
theorem PySem.W.Fast.tw18216865686900981072 : True := trivial
theorem PySem.W.Fast.tw16852554578844218736 : True := trivial
theorem PySem.W.Fast.tw14297908094264081936 : True := trivial
theorem PySem.W.Fast.tw13092893379104727792 : True := trivial
theorem PySem.W.Fast.tw13459731865628502960 : True := trivial
theorem PySem.W.Fast.tw1491486316941909968 : True := trivial
theorem PySem.W.Fast.tw11994042031658564560 : True := trivial
theorem PySem.W.Fast.tw6072040431507593200 : True := trivial
theorem PySem.W.Fast.tw14228667025812763665 : True := trivial
theorem PySem.W.Fast.tw8637877257649313937 : True := trivial
theorem PySem.W.Fast.tw16755058686241021137 : True := trivial
theorem PySem.W.Fast.tw8397279779512904977 : True := trivial
theorem PySem.W.Fast.tw16839431571584048849 : True := trivial
theorem PySem.W.Fast.tw6691708504664695505 : True := trivial
theorem PySem.W.Fast.tw11425564285152352017 : True := trivial
theorem PySem.W.Fast.tw5047374498850407185 : True := trivial
theorem PySem.W.Fast.tw17529203198842125105 : True := trivial
theorem PySem.W.Fast.tw4907517847611900913 : True := trivial
theorem PySem.W.Fast.tw11607589570015201362 : True := trivial
theorem PySem.W.Fast.tw2220928173590817138 : True := trivial
theorem PySem.W.Fast.tw14253155223982525906 : True := trivial
theorem PySem.W.Fast.tw317009685065631282 : True := trivial
theorem PySem.W.Fast.tw8528717802695540402 : True := trivial
theorem PySem.W.Fast.tw8617506899761075890 : True := trivial
theorem PySem.W.Fast.tw17361060963681727442 : True := trivial
theorem PySem.W.Fast.tw13279990466053149682 : True := trivial
theorem PySem.W.Fast.tw443945355902698482 : True := trivial
theorem PySem.W.Fast.tw12256801407103591443 : True := trivial
theorem PySem.W.Fast.tw6707188767286131763 : True := trivial
theorem PySem.W.Fast.tw9414621304885781683 : True := trivial
theorem PySem.W.Fast.tw7393807783348291795 : True := trivial
theorem PySem.W.Fast.tw18419993147480781331 : True := trivial
theorem PySem.W.Fast.tw17324799427604144659 : True := trivial
theorem PySem.W.Fast.tw2856953523020881427 : True := trivial
theorem PySem.W.Fast.tw8789371362333053523 : True := trivial
theorem PySem.W.Fast.tw3949025657611391603 : True := trivial
theorem PySem.W.Fast.tw12418465476999753459 : True := trivial
theorem PySem.W.Fast.tw5298402150733960051 : True := trivial
theorem PySem.W.Fast.tw10684685564014898067 : True := trivial
theorem PySem.W.Fast.tw8143015035627179955 : True := trivial
theorem PySem.W.Fast.tw8641086270754193460 : True := trivial
theorem PySem.W.Fast.tw7567766709467082804 : True := trivial
theorem PySem.W.Fast.tw3293171965545804884 : True := trivial
theorem PySem.W.Fast.tw1891218977420857524 : True := trivial
theorem PySem.W.Fast.tw9808272557866831124 : True := trivial
theorem PySem.W.Fast.tw6838518003624636756 : True := trivial
theorem PySem.W.Fast.tw8860730148154669620 : True := trivial
theorem PySem.W.Fast.tw16527443305464665748 : True := trivial
theorem PySem.W.Fast.tw6764184947644662644 : True := trivial
theorem PySem.W.Fast.tw11478618620565417876 : True := trivial
theorem PySem.W.Fast.tw14690780443186700341 : True := trivial
theorem PySem.W.Fast.tw16467027690716399957 : True := trivial
theorem PySem.W.Fast.tw10908744552433085813 : True := trivial
theorem PySem.W.Fast.tw9790076209078575509 : True := trivial
theorem PySem.W.Fast.tw9303361815084711541 : True := trivial
theorem PySem.W.Fast.tw7888285268999897813 : True := trivial
theorem PySem.W.Fast.tw12315848685313709941 : True := trivial
theorem PySem.W.Fast.tw1043435798716831701 : True := trivial
theorem PySem.W.Fast.tw6923561005665892341 : True := trivial
theorem PySem.W.Fast.tw9936377756913357846 : True := trivial
theorem PySem.W.Fast.tw15415726915532943382 : True := trivial
theorem PySem.W.Fast.tw11009514026227927222 : True := trivial
theorem PySem.W.Fast.tw2833897855646683446 : True := trivial
theorem PySem.W.Fast.tw16659120939597874614 : True := trivial
theorem PySem.W.Fast.tw10349221314099772886 : True := trivial
theorem PySem.W.Fast.tw11731667638227240502 : True := trivial
theorem PySem.W.Fast.tw13371502416259617430 : True := trivial
theorem PySem.W.Fast.tw3267280687118511958 : True := trivial
theorem PySem.W.Fast.tw1579273030401785686 : True := trivial
theorem PySem.W.Fast.tw390501389727732694 : True := trivial
theorem PySem.W.Fast.tw16090676731006012406 : True := trivial
theorem PySem.W.Fast.tw462823759879314583 : True := trivial
theorem PySem.W.Fast.tw16846056100127530167 : True := trivial
theorem PySem.W.Fast.tw15268744291986386135 : True := trivial
theorem PySem.W.Fast.tw15760107941086480599 : True := trivial
theorem PySem.W.Fast.tw10422180670609212759 : True := trivial
theorem PySem.W.Fast.tw15541133352954317207 : True := trivial
theorem PySem.W.Fast.tw1089476917161649591 : True := trivial
theorem PySem.W.Fast.tw5155508063083002359 : True := trivial
theorem PySem.W.Fast.tw445349630203673143 : True := trivial
theorem PySem.W.Fast.tw10743647668271331927 : True := trivial
theorem PySem.W.Fast.tw7352305397927034519 : True := trivial
theorem PySem.W.Fast.tw18186319362958306039 : True := trivial
theorem PySem.W.Fast.tw3537560750680037143 : True := trivial
theorem PySem.W.Fast.tw7698886157593983895 : True := trivial
theorem PySem.W.Fast.tw9332038721686897623 : True := trivial
theorem PySem.W.Fast.tw13658432170374493208 : True := trivial
theorem PySem.W.Fast.tw8232648789603372120 : True := trivial
theorem PySem.W.Fast.tw5413622244500122968 : True := trivial
theorem PySem.W.Fast.tw8693374911111612888 : True := trivial
theorem PySem.W.Fast.tw5905405670852934136 : True := trivial
theorem PySem.W.Fast.tw5732566783599136568 : True := trivial
theorem PySem.W.Fast.tw12993454591943817144 : True := trivial
theorem PySem.W.Fast.tw8561180630322439160 : True := trivial
theorem PySem.W.Fast.tw17472577010718670905 : True := trivial
theorem PySem.W.Fast.tw4497113223525763225 : True := trivial
theorem PySem.W.Fast.tw3081140308500155769 : True := trivial
theorem PySem.W.Fast.tw17588333294137520537 : True := trivial
theorem PySem.W.Fast.tw4975026153805360665 : True := trivial
theorem PySem.W.Fast.tw12404133543413026585 : True := trivial
theorem PySem.W.Fast.tw278442638887927609 : True := trivial
theorem PySem.W.Fast.tw11748786846069176281 : True := trivial
theorem PySem.W.Fast.tw5116971147608920090 : True := trivial
theorem PySem.W.Fast.tw9544881424376585306 : True := trivial
theorem PySem.W.Fast.tw10042319884680370266 : True := trivial
theorem PySem.W.Fast.tw10381493332611106906 : True := trivial
theorem PySem.W.Fast.tw2375070019211267290 : True := trivial
theorem PySem.W.Fast.tw18182351613872752890 : True := trivial
theorem PySem.W.Fast.tw5564067420468818362 : True := trivial
theorem PySem.W.Fast.tw17096267790350725594 : True := trivial
theorem PySem.W.Fast.tw13529428783976933050 : True := trivial
theorem PySem.W.Fast.tw13882637164092521178 : True := trivial
theorem PySem.W.Fast.tw1772427458905720538 : True := trivial
theorem PySem.W.Fast.tw11615975342777593562 : True := trivial
theorem PySem.W.Fast.tw13669961294843579130 : True := trivial
theorem PySem.W.Fast.tw14980683763217858298 : True := trivial
theorem PySem.W.Fast.tw1042307421330121626 : True := trivial
theorem PySem.W.Fast.tw15756981997278885818 : True := trivial
theorem PySem.W.Fast.tw7498193811511143386 : True := trivial
theorem PySem.W.Fast.tw991597144713257051 : True := trivial
theorem PySem.W.Fast.tw14148092963539802299 : True := trivial
theorem PySem.W.Fast.tw407593946745222491 : True := trivial
theorem PySem.W.Fast.tw8059227859088090523 : True := trivial
theorem PySem.W.Fast.tw17779349031242309051 : True := trivial
theorem PySem.W.Fast.tw17052042398500332987 : True := trivial
theorem PySem.W.Fast.tw10139746650186335867 : True := trivial
theorem PySem.W.Fast.tw970401739836030747 : True := trivial
theorem PySem.W.Fast.tw5702615335262759771 : True := trivial
theorem PySem.W.Fast.tw3765837793465137051 : True := trivial
theorem PySem.W.Fast.tw879692053060550684 : True := trivial
theorem PySem.W.Fast.tw7344147113197195324 : True := trivial
theorem PySem.W.Fast.tw17401863115151852988 : True := trivial
theorem PySem.W.Fast.tw531286871839992284 : True := trivial
theorem PySem.W.Fast.tw14350317759766170108 : True := trivial
theorem PySem.W.Fast.tw13936504819792066044 : True := trivial
theorem PySem.W.Fast.tw864891362820103740 : True := trivial
theorem PySem.W.Fast.tw15854657809699549756 : True := trivial
theorem PySem.W.Fast.tw9161674927451469404 : True := trivial
theorem PySem.W.Fast.tw17277528274957650588 : True := trivial
theorem PySem.W.Fast.tw14319961912525648604 : True := trivial
theorem PySem.W.Fast.tw3682560195570921308 : True := trivial
theorem PySem.W.Fast.tw6125710509697072988 : True := trivial
theorem PySem.W.Fast.tw418158156942398396 : True := trivial
theorem PySem.W.Fast.tw14611301350494489757 : True := trivial
theorem PySem.W.Fast.tw13674795426767400445 : True := trivial
theorem PySem.W.Fast.tw17727119183347510877 : True := trivial
theorem PySem.W.Fast.tw10104183128867357341 : True := trivial
theorem PySem.W.Fast.tw6539072823132026557 : True := trivial
theorem PySem.W.Fast.tw6925478629119647453 : True := trivial
theorem PySem.W.Fast.tw6455736640387386237 : True := trivial
theorem PySem.W.Fast.tw8523902868984869982 : True := trivial
theorem PySem.W.Fast.tw16437699132622450878 : True := trivial
theorem PySem.W.Fast.tw12903248691705446654 : True := trivial
theorem PySem.W.Fast.tw8079272395437975966 : True := trivial
theorem PySem.W.Fast.tw7284950589457373630 : True := trivial
theorem PySem.W.Fast.tw11406755581668259326 : True := trivial
theorem PySem.W.Fast.tw5651079355014584926 : True := trivial
theorem PySem.W.Fast.tw13277921957106112158 : True := trivial
theorem PySem.W.Fast.tw10429308618968583966 : True := trivial
theorem PySem.W.Fast.tw11240446198063405054 : True := trivial
theorem PySem.W.Fast.tw2937603047391700031 : True := trivial
theorem PySem.W.Fast.tw14586880514368469087 : True := trivial
theorem PySem.W.Fast.tw3618820865388184671 : True := trivial
theorem PySem.W.Fast.tw11932747672659981439 : True := trivial
theorem PySem.W.Fast.tw9956934333626536223 : True := trivial
theorem PySem.W.Fast.tw10452785790804883807 : True := trivial
theorem PySem.W.Fast.tw4425059024479729087 : True := trivial
theorem PySem.W.Fast.tw11785110762781088223 : True := trivial
theorem PySem.W.Fast.tw14141591982892291615 : True := trivial
theorem PySem.W.Fast.tw8424210639968156511 : True := trivial
theorem PySem.W.Fast.tw8376778426812698527 : True := trivial
theorem PySem.W.Fast.tw532159302579949503 : True := trivial
open PySem PySem.W PyProof.Rows
set_option maxRecDepth 100000 in
set_option maxHeartbeats 0 in
theorem PySem.Challenge.cw_lugtrain_k36_grabs_by_hand_holds : PySem.Challenge.rw_lugtrain_k36_grabs_by_hand.Holds := by
  w_on; o_law; k_head; (case hw => w_witness2)
  k_fill
  refine My.walk (l := PySem.Challenge.rw_lugtrain_k36_grabs_by_hand) rfl rfl (fun w h Y => PySem.W.kIn_of Y) ?F
  case F =>
    intro w mg fa h KX G hmg
    refine' My.all_mk KX G hmg ?a_law_cell_at ?l_law_cell_at ?c_law_cell_at ?k_law_cell_at ?a_law_draws ?l_law_draws ?c_law_draws ?k_law_draws ?a_law_whole ?l_law_whole ?c_law_whole ?k_law_whole ?a_law_a_kin ?l_law_a_kin ?c_law_a_kin ?k_law_a_kin ?a_law_due_kin ?l_law_due_kin ?c_law_due_kin ?k_law_due_kin ?a_refuse_no_piece ?l_refuse_no_piece ?c_refuse_no_piece ?k_refuse_no_piece ?a_dragged ?l_dragged ?c_dragged ?k_dragged ?a_all_dragged ?l_all_dragged ?c_all_dragged ?k_all_dragged ?a_moved ?l_moved ?c_moved ?k_moved ?a_is_train ?l_is_train ?c_is_train ?k_is_train ?a_keeps_plays ?l_keeps_plays ?c_keeps_plays ?k_keeps_plays ?a_refuse_no_train ?l_refuse_no_train ?c_refuse_no_train ?k_refuse_no_train ?a_is_stand ?l_is_stand ?c_is_stand ?k_is_stand ?a_refuse_no_stand ?l_refuse_no_stand ?c_refuse_no_stand ?k_refuse_no_stand ?a_grabs_of ?l_grabs_of ?c_grabs_of ?k_grabs_of ?a_grabbed ?l_grabbed ?c_grabbed ?k_grabbed ?a_law_dragged ?l_law_dragged ?c_law_dragged ?k_law_dragged ?a_law_a_behind ?l_law_a_behind ?c_law_a_behind ?k_law_a_behind ?a_law_told ?l_law_told ?c_law_told ?k_law_told ?a_law_train ?l_law_train ?c_law_train ?k_law_train ?a_law ?l_law ?c_law ?k_law ?z_ValueError ?z_abs ?z_bool ?z_int ?z_isinstance ?z_len ?z_list ?z_max ?z_min ?z_range ?z_sum ?z_tuple ?z_zip ?g_MOST_PLAYS ?n_TrainError ?n_NoTrain ?n_NoStand ?n_NoPaper ?n_NoBox ?n_NoSwitch ?n_NoPlace ?n_NoTable ?n_NoText ?n_NoRow ?n_NoPiece ?n_NothingLeft ?n_TooMany ?x_NoTrain ?e_NoTrain ?i_NoTrain_ga ?i_NoTrain_gt ?i_NoTrain_mb ?i_NoTrain_hd ?i_NoTrain_ca ?i_NoTrain_sp ?i_NoTrain_tk ?i_NoTrain_mr ?k_NoTrain_NoTrain ?k_NoTrain_NoStand ?k_NoTrain_NoPaper ?k_NoTrain_NoBox ?k_NoTrain_NoSwitch ?k_NoTrain_NoPlace ?k_NoTrain_NoTable ?k_NoTrain_NoText ?k_NoTrain_NoRow ?k_NoTrain_NoPiece ?k_NoTrain_NothingLeft ?k_NoTrain_TooMany ?k_NoTrain_ValueError ?x_NoStand ?e_NoStand ?i_NoStand_ga ?i_NoStand_gt ?i_NoStand_mb ?i_NoStand_hd ?i_NoStand_ca ?i_NoStand_sp ?i_NoStand_tk ?i_NoStand_mr ?k_NoStand_NoTrain ?k_NoStand_NoStand ?k_NoStand_NoPaper ?k_NoStand_NoBox ?k_NoStand_NoSwitch ?k_NoStand_NoPlace ?k_NoStand_NoTable ?k_NoStand_NoText ?k_NoStand_NoRow ?k_NoStand_NoPiece ?k_NoStand_NothingLeft ?k_NoStand_TooMany ?k_NoStand_ValueError ?x_NoPiece ?e_NoPiece ?i_NoPiece_ga ?i_NoPiece_gt ?i_NoPiece_mb ?i_NoPiece_hd ?i_NoPiece_ca ?i_NoPiece_sp ?i_NoPiece_tk ?i_NoPiece_mr ?k_NoPiece_NoTrain ?k_NoPiece_NoStand ?k_NoPiece_NoPaper ?k_NoPiece_NoBox ?k_NoPiece_NoSwitch ?k_NoPiece_NoPlace ?k_NoPiece_NoTable ?k_NoPiece_NoText ?k_NoPiece_NoRow ?k_NoPiece_NoPiece ?k_NoPiece_NothingLeft ?k_NoPiece_TooMany ?k_NoPiece_ValueError
    (case a_law_cell_at => k_is)
    (case l_law_cell_at => k_is)
    (case c_law_cell_at => k_is)
    (case k_law_cell_at => k_is)
    (case a_law_draws => k_is)
    (case l_law_draws => k_is)
    (case c_law_draws => k_is)
    (case k_law_draws => k_is)
    (case a_law_whole => k_is)
    (case l_law_whole => k_is)
    (case c_law_whole => k_is)
    (case k_law_whole => k_is)
    (case a_law_a_kin => k_is)
    (case l_law_a_kin => k_is)
    (case c_law_a_kin => k_is)
    (case k_law_a_kin => k_is)
    (case a_law_due_kin => k_is)
    (case l_law_due_kin => k_is)
    (case c_law_due_kin => k_is)
    (case k_law_due_kin => k_is)
    (case a_refuse_no_piece => k_is)
    (case l_refuse_no_piece => k_is)
    (case c_refuse_no_piece => k_is)
    (case k_refuse_no_piece => k_is)
    (case a_dragged => k_is)
    (case l_dragged => k_is)
    (case c_dragged => k_is)
    (case k_dragged => k_is)
    (case a_all_dragged => k_is)
    (case l_all_dragged => k_is)
    (case c_all_dragged => k_is)
    (case k_all_dragged => k_is)
    (case a_moved => k_is)
    (case l_moved => k_is)
    (case c_moved => k_is)
    (case k_moved => k_is)
    (case a_is_train => k_is)
    (case l_is_train => k_is)
    (case c_is_train => k_is)
    (case k_is_train => k_is)
    (case a_keeps_plays => k_is)
    (case l_keeps_plays => k_is)
    (case c_keeps_plays => k_is)
    (case k_keeps_plays => k_is)
    (case a_refuse_no_train => k_is)
    (case l_refuse_no_train => k_is)
    (case c_refuse_no_train => k_is)
    (case k_refuse_no_train => k_is)
    (case a_is_stand => k_is)
    (case l_is_stand => k_is)
    (case c_is_stand => k_is)
    (case k_is_stand => k_is)
    (case a_refuse_no_stand => k_is)
    (case l_refuse_no_stand => k_is)
    (case c_refuse_no_stand => k_is)
    (case k_refuse_no_stand => k_is)
    (case a_grabs_of => k_is)
    (case l_grabs_of => k_is)
    (case c_grabs_of => k_is)
    (case k_grabs_of => k_is)
    (case a_grabbed => k_is)
    (case l_grabbed => k_is)
    (case c_grabbed => k_is)
    (case k_grabbed => k_is)
    (case a_law_dragged => k_is)
    (case l_law_dragged => k_is)
    (case c_law_dragged => k_is)
    (case k_law_dragged => k_is)
    (case a_law_a_behind => k_is)
    (case l_law_a_behind => k_is)
    (case c_law_a_behind => k_is)
    (case k_law_a_behind => k_is)
    (case a_law_told => k_is)
    (case l_law_told => k_is)
    (case c_law_told => k_is)
    (case k_law_told => k_is)
    (case a_law_train => k_is)
    (case l_law_train => k_is)
    (case c_law_train => k_is)
    (case k_law_train => k_is)
    (case a_law => k_is)
    (case l_law => k_is)
    (case c_law => k_is)
    (case k_law => k_is)
    (case z_ValueError => k_is)
    (case z_abs => k_is)
    (case z_bool => k_is)
    (case z_int => k_is)
    (case z_isinstance => k_is)
    (case z_len => k_is)
    (case z_list => k_is)
    (case z_max => k_is)
    (case z_min => k_is)
    (case z_range => k_is)
    (case z_sum => k_is)
    (case z_tuple => k_is)
    (case z_zip => k_is)
    (case g_MOST_PLAYS => k_is)
    (case n_TrainError => k_is)
    (case n_NoTrain => k_is)
    (case n_NoStand => k_is)
    (case n_NoPaper => k_is)
    (case n_NoBox => k_is)
    (case n_NoSwitch => k_is)
    (case n_NoPlace => k_is)
    (case n_NoTable => k_is)
    (case n_NoText => k_is)
    (case n_NoRow => k_is)
    (case n_NoPiece => k_is)
    (case n_NothingLeft => k_is)
    (case n_TooMany => k_is)
    (case x_NoTrain => k_exc)
    (case e_NoTrain => kts_exm)
    (case i_NoTrain_ga => k_is)
    (case i_NoTrain_gt => k_is)
    (case i_NoTrain_mb => k_is)
    (case i_NoTrain_hd => k_is)
    (case i_NoTrain_ca => k_is)
    (case i_NoTrain_sp => k_is)
    (case i_NoTrain_tk => k_is)
    (case i_NoTrain_mr => k_is)
    (case k_NoTrain_NoTrain => kit_is)
    (case k_NoTrain_NoStand => kit_is)
    (case k_NoTrain_NoPaper => kit_is)
    (case k_NoTrain_NoBox => kit_is)
    (case k_NoTrain_NoSwitch => kit_is)
    (case k_NoTrain_NoPlace => kit_is)
    (case k_NoTrain_NoTable => kit_is)
    (case k_NoTrain_NoText => kit_is)
    (case k_NoTrain_NoRow => kit_is)
    (case k_NoTrain_NoPiece => kit_is)
    (case k_NoTrain_NothingLeft => kit_is)
    (case k_NoTrain_TooMany => kit_is)
    (case k_NoTrain_ValueError => kit_is)
    (case x_NoStand => k_exc)
    (case e_NoStand => kts_exm)
    (case i_NoStand_ga => k_is)
    (case i_NoStand_gt => k_is)
    (case i_NoStand_mb => k_is)
    (case i_NoStand_hd => k_is)
    (case i_NoStand_ca => k_is)
    (case i_NoStand_sp => k_is)
    (case i_NoStand_tk => k_is)
    (case i_NoStand_mr => k_is)
    (case k_NoStand_NoTrain => kit_is)
    (case k_NoStand_NoStand => kit_is)
    (case k_NoStand_NoPaper => kit_is)
    (case k_NoStand_NoBox => kit_is)
    (case k_NoStand_NoSwitch => kit_is)
    (case k_NoStand_NoPlace => kit_is)
    (case k_NoStand_NoTable => kit_is)
    (case k_NoStand_NoText => kit_is)
    (case k_NoStand_NoRow => kit_is)
    (case k_NoStand_NoPiece => kit_is)
    (case k_NoStand_NothingLeft => kit_is)
    (case k_NoStand_TooMany => kit_is)
    (case k_NoStand_ValueError => kit_is)
    (case x_NoPiece => k_exc)
    (case e_NoPiece => kts_exm)
    (case i_NoPiece_ga => k_is)
    (case i_NoPiece_gt => k_is)
    (case i_NoPiece_mb => k_is)
    (case i_NoPiece_hd => k_is)
    (case i_NoPiece_ca => k_is)
    (case i_NoPiece_sp => k_is)
    (case i_NoPiece_tk => k_is)
    (case i_NoPiece_mr => k_is)
    (case k_NoPiece_NoTrain => kit_is)
    (case k_NoPiece_NoStand => kit_is)
    (case k_NoPiece_NoPaper => kit_is)
    (case k_NoPiece_NoBox => kit_is)
    (case k_NoPiece_NoSwitch => kit_is)
    (case k_NoPiece_NoPlace => kit_is)
    (case k_NoPiece_NoTable => kit_is)
    (case k_NoPiece_NoText => kit_is)
    (case k_NoPiece_NoRow => kit_is)
    (case k_NoPiece_NoPiece => kit_is)
    (case k_NoPiece_NothingLeft => kit_is)
    (case k_NoPiece_TooMany => kit_is)
    (case k_NoPiece_ValueError => kit_is)

