import PyProof.Rows.All
import Wide.All
import OpenK.AllK
import Wide.FinOn
import Lean
import PyProof.EqAt
import PyProof.EqKinds
import PyProof.TupleCall
import PySem.Challenge.RW_lugtrain_k10_swings_counted

set_option Elab.async false
set_option linter.all false
set_option maxRecDepth 100000
/-! THE HAND LAYER, for ints, bools, texts, own classes, LISTS and tuples (index, slices, in, append, pop ..), calls, loops. Paste it whole ahead of your own text; what your proof does not reach may be deleted. -/
namespace L2
open PySem PySem.Spec PyProof.Rows

/-- a key: an int or a str -/
abbrev Key := Sum Int Str
def keyIs : Key → Value → Bool
  | .inl k, v => Value.isInt k v
  | .inr x, v => Value.isStrOf x v
def keyH (w : World) : Key → Int
  | .inl k => hashInt k
  | .inr x => hashStr w x
theorem keyIs_shape : ∀ {k : Key} {v : Value}, keyIs k v = true → (∃ i t, k = Sum.inl i ∧ v = Value.int i t) ∨ (∃ x t, k = Sum.inr x ∧ v = Value.str x t)
  | .inl i, v, h => by
    obtain ⟨t, e⟩ := Value.isInt_shape (k := i) (v := v) h
    exact .inl ⟨i, t, rfl, e⟩
  | .inr x, v, h => by
    obtain ⟨t, e⟩ := Value.isStrOf_shape (x := x) (v := v) h
    exact .inr ⟨x, t, rfl, e⟩
theorem key_ll (a b : Int) : decide ((Sum.inl a : Key) = Sum.inl b) = (a == b) := by
  by_cases e : a = b
  · subst e; simp
  · have h : ¬ (Sum.inl a : Key) = Sum.inl b := fun q => e (Sum.inl.inj q)
    rw [decide_eq_false h]
    exact (beq_eq_false_iff_ne.mpr e).symm
theorem key_rr (a b : Str) : decide ((Sum.inr a : Key) = Sum.inr b) = decide (a = b) := by
  by_cases e : a = b
  · subst e; simp
  · have h : ¬ (Sum.inr a : Key) = Sum.inr b := fun q => e (Sum.inr.inj q)
    rw [decide_eq_false h, decide_eq_false e]
theorem key_lr (a : Int) (b : Str) : decide ((Sum.inl a : Key) = Sum.inr b) = false := decide_eq_false (fun q => nomatch q)
theorem key_rl (a : Str) (b : Int) : decide ((Sum.inr a : Key) = Sum.inl b) = false := decide_eq_false (fun q => nomatch q)

def mixKind (prog : Program) (w : World) : PySem.KeyKind prog w Key where
  is := keyIs
  hash := keyH w
  inj := fun v a b ha hb => by
    rcases keyIs_shape ha with ⟨i, t, rfl, rfl⟩ | ⟨x, t, rfl, rfl⟩
    · rcases keyIs_shape hb with ⟨j, u, rfl, e⟩ | ⟨y, u, rfl, e⟩
      · injection e with e1 _; rw [e1]
      · exact nomatch e
    · rcases keyIs_shape hb with ⟨j, u, rfl, e⟩ | ⟨y, u, rfl, e⟩
      · exact nomatch e
      · injection e with e1 _; rw [e1]
  byValue := fun k v h => by
    rcases keyIs_shape h with ⟨i, t, rfl, rfl⟩ | ⟨x, t, rfl, rfl⟩ <;> rfl
  pyHash := fun hv h => by
    rcases keyIs_shape hv with ⟨i, t, rfl, rfl⟩ | ⟨x, t, rfl, rfl⟩
    · exact wpAny_pyHash_int h
    · exact wpAny_pyHash_str h
  eqBool := fun hu hv h => by
    rcases keyIs_shape hu with ⟨i, t, rfl, rfl⟩ | ⟨x, t, rfl, rfl⟩
    · rcases keyIs_shape hv with ⟨j, u, rfl, rfl⟩ | ⟨y, u, rfl, rfl⟩
      · rw [key_ll] at h; exact wpAny_eqBool_int h
      · rw [key_lr] at h; exact SeqAt.EqAt.int_str i t y u _ _ _ _ h
    · rcases keyIs_shape hv with ⟨j, u, rfl, rfl⟩ | ⟨y, u, rfl, rfl⟩
      · rw [key_rl] at h; exact SeqAt.EqAt.str_int x t j u _ _ _ _ h
      · rw [key_rr] at h; exact wpAny_eqBool_str h
  «strs» := fun k x t v h => by
    rcases keyIs_shape h with ⟨i, u, rfl, e⟩ | ⟨y, u, rfl, e⟩
    · exact nomatch e
    · injection e with e1 _
      subst e1
      cases v <;> rfl

end L2

namespace L2
open PySem PySem.Spec PyProof.Rows

/-- a value, without the heap -/
inductive V where
  | non | bl (b : Bool) | int (i : Int) | str (x : Str) | byt (b : Array UInt8) | flt (b : UInt64) | ref (a : Addr) | ty (n : String)
  deriving DecidableEq

def RelV : V → Value → Prop
  | .non, u => u = Value.none
  | .bl b, u => u = Value.bool b
  | .int i, u => ∃ t, u = Value.int i t
  | .str x, u => ∃ t, u = Value.str x t
  | .byt b, u => ∃ t, u = Value.bytes b t
  | .flt b, u => ∃ t, u = Value.float b t
  | .ref a, u => u = Value.ref a
  | .ty n, u => u = Value.type n

abbrev Vals : List V → List Value → Prop := Paired RelV
theorem Vals.length {xs : List V} {us : List Value} (r : Vals xs us) : xs.length = us.length := Paired.length r
theorem Vals.get : ∀ {xs : List V} {us : List Value} {i : Nat} {x : V}, Vals xs us → xs[i]? = some x → ∃ u, us[i]? = some u ∧ RelV x u
  | _, _, _, _, .nil, e => by simp at e
  | _, _, 0, _, .cons r _, e => by simp at e; subst e; exact ⟨_, rfl, r⟩
  | _, _, i + 1, x, .cons _ t, e => by
    obtain ⟨u, h1, h2⟩ := Vals.get (i := i) (x := x) t (by simpa using e)
    exact ⟨u, by simpa using h1, h2⟩
theorem Vals.append : ∀ {xs ys : List V} {us ws : List Value}, Vals xs us → Vals ys ws → Vals (xs ++ ys) (us ++ ws)
  | _, _, _, _, .nil, s => s
  | _, _, _, _, .cons r t, s => .cons r (Vals.append t s)
theorem Vals.take : ∀ {xs : List V} {us : List Value} (n : Nat), Vals xs us → Vals (xs.take n) (us.take n)
  | _, _, 0, _ => .nil
  | _, _, _ + 1, .nil => .nil
  | _, _, n + 1, .cons r t => .cons r (Vals.take n t)
theorem Vals.drop : ∀ {xs : List V} {us : List Value} (n : Nat), Vals xs us → Vals (xs.drop n) (us.drop n)
  | _, _, 0, r => r
  | _, _, _ + 1, .nil => .nil
  | _, _, n + 1, .cons _ t => Vals.drop n t
def RelO : Option V → Option Value → Prop
  | some v, some u => RelV v u
  | none, none => True
  | _, _ => False
def KV {κ : Type} : List (κ × V) → List (κ × Value) → Prop := Paired fun (p : κ × V) (q : κ × Value) => p.1 = q.1 ∧ RelV p.2 q.2

/-- a key of a dict (00_mix): an int or a text -/
def kV : Key → V
  | .inl i => .int i
  | .inr x => .str x

/-- what stands at a tracked address -/
inductive HO where
  /-- a list -/
  | lst (xs : List V)
  /-- a tuple (never changes) -/
  | tup (xs : List V)
  /-- a dict whose keys are ints and texts; one whose keys are tuples of ints and texts (the empty one is both) -/
  | dK (kvs : List (Key × V)) | dT (kvs : List (List Key × V))
  /-- a set of ints: its members, its size -/
  | set (S : Int → Bool) (n : Nat)
  /-- an instance of the class at C, its dict at dx, its attributes -/
  | ins (C dx : Addr) (fs : List (Str × V))
  /-- the dict of the instance at x -/
  | own (x : Addr)
  /-- the dict of an exception -/
  | xd (fs : List (Str × V))
  /-- a bound method, f of x -/
  | met (f x : Addr)
  /-- a range object lo, lo + 1, .. below hi -/
  | rng (lo hi : Int)
  /-- a thing that is known to the object (the script; a dict while a loop walks it): read, never written while it is so -/
  | frz (o : Obj) (u : HO)
  /-- a code object's table -/
  | tbl (ps : Array Value)
  /-- any other thing, by what is true of its one object (a def of one's own: SetO a S n := HO.ext fun h => ..) -/
  | ext (φ : Heap → Prop)

abbrev Hp := Addr → Option HO
def upd (H : Hp) (a : Addr) (o : HO) : Hp := fun b => if b = a then some o else H b
theorem upd_same {H : Hp} {a : Addr} {o : HO} : upd H a o a = some o := by unfold upd; rw [if_pos rfl]
theorem upd_ne {H : Hp} {a b : Addr} {o : HO} (h : b ≠ a) : upd H a o b = H b := by unfold upd; rw [if_neg h]
theorem ne_of_none {H : Hp} {a b : Addr} {o : HO} (h : H a = some o) (h' : H b = none) : a ≠ b := by
  intro e; subst e; rw [h] at h'; cases h'

section
variable (P : Program) (w : World)
def ObjOk (H : Hp) (h : Heap) (a : Addr) : HO → Prop
  | .lst xs => xs.length ≤ sizeLine ∧ ∃ (its : List Value) (n : Nat), Vals xs its ∧ h.get? a = some { cls := .type "list", data := .seq its.toArray n }
  | .tup xs => xs.length ≤ sizeLine ∧ ∃ its : List Value, Vals xs its ∧ IsTup h a its.toArray
  | .dK kvs => kvs.length ≤ sizeLine ∧ (a == sysModules) = false ∧ ∃ vs, KV kvs vs ∧ h.DictOf (mixKind P w) a vs
  | .dT kvs => kvs.length ≤ sizeLine ∧ (a == sysModules) = false ∧ ∃ xs : List (List Key × Addr × Value),
      Paired (fun (p : List Key × V) (q : List Key × Addr × Value) => p.1 = q.1 ∧ H q.2.1 = some (.tup (p.1.map kV)) ∧ RelV p.2 q.2.2) kvs xs ∧
      ∃ o es ep, h.get? a = some o ∧ o.ExactDict ∧ o.data = .dict es ep ∧ es.toList = xs.map (entryOfKey (tupleKind (mixKind P w))) ∧ (xs.map (·.1)).Nodup
  | .set S n => h.SetOf (intKind P w) a S n
  | .ins C dx fs => H dx = some (.own a) ∧ fs.length ≤ 1000 ∧ dx ≠ a ∧ h.get? a = some (PySem.W.instObj C dx) ∧
      ∃ mA, h.Ns1 dx mA ∧ (∀ f, RelO (fs.lookup f) (mA f)) ∧ PySem.Within mA (fs.map (·.1))
  | .own _ => ∃ o, h.get? a = some o
  | .xd fs => ∃ mA, h.Ns1 a mA ∧ ∀ f, RelO (fs.lookup f) (mA f)
  | .rng lo hi => ∃ t u v, h.get? a = some { cls := .type "range", data := .fields #[.int lo t, .int hi u, .int 1 v] }
  | .frz o u => h.get? a = some o ∧ ObjOk H h a u
  | .tbl ps => h.get? a = some { cls := .none, data := .fields ps }
  | .met f x => h.get? a = some (PySem.W.methodObj (.ref f) (.ref x))
  | .ext φ => φ h ∧ (∃ o, h.get? a = some o) ∧ ∀ h1 h2 : Heap, φ h1 → (∀ o, h1.get? a = some o → h2.get? a = some o) → φ h2
/-- the abstract heap is held -/
def HOk (H : Hp) (h : Heap) : Prop := ∀ a o, H a = some o → ObjOk P w H h a o
end

section
variable {P : Program} {w : World} {H H' : Hp} {h h' : Heap} {a : Addr} {o : HO}
theorem ObjOk.lt (x : ObjOk P w H h a o) : a < h.objs.size := by
  cases o with
  | lst xs => obtain ⟨_, _, _, _, e⟩ := x; exact Heap.lt_size e
  | tup xs => obtain ⟨_, _, _, p⟩ := x; exact p.lt
  | dK kvs => obtain ⟨_, _, _, _, o, _, _, e, _⟩ := x; exact Heap.lt_size e
  | dT kvs => obtain ⟨_, _, _, _, o, _, _, e, _⟩ := x; exact Heap.lt_size e
  | set S n => obtain ⟨o, _, _, _, e, _⟩ := x; exact Heap.lt_size e
  | ins C dx fs => obtain ⟨_, _, _, e, _⟩ := x; exact Heap.lt_size e
  | own y => obtain ⟨_, e⟩ := x; exact Heap.lt_size e
  | xd fs => obtain ⟨_, ⟨_, _, _, e, _⟩, _⟩ := x; exact Heap.lt_size e
  | rng lo hi => obtain ⟨_, _, _, e⟩ := x; exact Heap.lt_size e
  | frz ob u => obtain ⟨e, _⟩ := x; exact Heap.lt_size e
  | tbl ps => exact Heap.lt_size (show h.get? a = some _ from x)
  | met f y => exact Heap.lt_size (show h.get? a = some _ from x)
  | ext φ => obtain ⟨_, ⟨_, e⟩, _⟩ := x; exact Heap.lt_size e
theorem Paired.mapP {α β : Type} {F G : α → β → Prop} : ∀ {l₁ : List α} {l₂ : List β}, Paired F l₁ l₂ → (∀ a b, F a b → G a b) → Paired G l₁ l₂
  | _, _, .nil, _ => .nil
  | _, _, .cons r t, f => .cons (f _ _ r) (Paired.mapP t f)
/-- what an object's description leans on: its own object, its own dict, the tuples -/
theorem ObjOk.stay (x : ObjOk P w H h a o) (k : ∀ b u, (b = a ∨ H b = some (.own a)) → h.get? b = some u → h'.get? b = some u)
    (ho : ∀ b, H b = some (.own a) → H' b = some (.own a)) (ht : ∀ b xs, H b = some (.tup xs) → H' b = some (.tup xs)) : ObjOk P w H' h' a o := by
  induction o with
  | lst xs => obtain ⟨z, its, n, r, e⟩ := x; exact ⟨z, its, n, r, k _ _ (.inl rfl) e⟩
  | tup xs => obtain ⟨z, its, r, ob, e, c⟩ := x; exact ⟨z, its, r, ob, k _ _ (.inl rfl) e, c⟩
  | dK kvs => obtain ⟨z, y, vs, r, ob, es, ep, e, c⟩ := x; exact ⟨z, y, vs, r, ob, es, ep, k _ _ (.inl rfl) e, c⟩
  | dT kvs =>
    obtain ⟨z, y, xs, r, ob, es, ep, e, c⟩ := x
    exact ⟨z, y, xs, Paired.mapP r fun p q z => ⟨z.1, ht _ _ z.2.1, z.2.2⟩, ob, es, ep, k _ _ (.inl rfl) e, c⟩
  | set S n => obtain ⟨ob, es, ep, t, e, c⟩ := x; exact ⟨ob, es, ep, t, k _ _ (.inl rfl) e, c⟩
  | ins C dx fs =>
    obtain ⟨d, z, ne, e, mA, ⟨od, es, ep, e2, c⟩, r⟩ := x
    exact ⟨ho _ d, z, ne, k _ _ (.inl rfl) e, mA, ⟨od, es, ep, k _ _ (.inr d) e2, c⟩, r⟩
  | own y => obtain ⟨ob, e⟩ := x; exact ⟨ob, k _ _ (.inl rfl) e⟩
  | xd fs => obtain ⟨mA, ⟨od, es, ep, e, c⟩, r⟩ := x; exact ⟨mA, ⟨od, es, ep, k _ _ (.inl rfl) e, c⟩, r⟩
  | rng lo hi => obtain ⟨t, u, v, e⟩ := x; exact ⟨t, u, v, k _ _ (.inl rfl) e⟩
  | frz ob u ih => obtain ⟨e, q⟩ := x; exact ⟨k _ _ (.inl rfl) e, ih q⟩
  | tbl ps =>
    have e : h.get? a = some { cls := .none, data := .fields ps } := x
    show h'.get? a = some { cls := .none, data := .fields ps }
    exact k a _ (.inl rfl) e
  | met f y =>
    have e : h.get? a = some (PySem.W.methodObj (.ref f) (.ref y)) := x
    show h'.get? a = some (PySem.W.methodObj (.ref f) (.ref y))
    exact k a _ (.inl rfl) e
  | ext φ => obtain ⟨p, ⟨o, e⟩, st⟩ := x; exact ⟨st _ _ p fun o q => k _ _ (.inl rfl) q, ⟨o, k _ _ (.inl rfl) e⟩, st⟩
theorem HOk.lt (x : HOk P w H h) (e : H a = some o) : a < h.objs.size := (x a o e).lt
theorem HOk.fresh (x : HOk P w H h) (e : h.objs.size ≤ a) : H a = none := by
  cases q : H a with
  | none => rfl
  | some u => exact absurd (Nat.lt_of_lt_of_le (x.lt q) e) (Nat.lt_irrefl _)
/-- every object of the heap is kept -/
theorem HOk.kept (x : HOk P w H h) (k : ∀ b u, h.get? b = some u → h'.get? b = some u) : HOk P w H h' := fun a o e =>
  (x a o e).stay (fun b u _ q => k b u q) (fun _ q => q) fun _ _ q => q
/-- a new object is laid and tracked -/
theorem HOk.laid (x : HOk P w H h) (k : ∀ b u, h.get? b = some u → h'.get? b = some u) (hp : h.objs.size ≤ a) (new : ObjOk P w (upd H a o) h' a o) : HOk P w (upd H a o) h' := fun b u e => by
  have hn := x.fresh hp
  by_cases hb : b = a
  · subst hb; rw [upd_same] at e; cases e; exact new
  · rw [upd_ne hb] at e
    exact (x b u e).stay (fun c v _ q => k c v q) (fun c q => by rw [upd_ne (ne_of_none q hn)]; exact q) fun c xs q => by rw [upd_ne (ne_of_none q hn)]; exact q
end

/-- what may be read as u: it is u, or a known u -/
def Rd (H : Hp) (a : Addr) (u : HO) : Prop := H a = some u ∨ ∃ o, H a = some (.frz o u)
theorem Rd.ok {P : Program} {w : World} {H : Hp} {h : Heap} {a : Addr} {u : HO} (r : Rd H a u) (x : HOk P w H h) : ObjOk P w H h a u := by
  rcases r with r | ⟨o, r⟩
  · exact x a u r
  · obtain ⟨_, q⟩ := x a _ r
    exact q
/-- what may be written -/
def Mut : Option HO → Prop
  | some (.lst _) => True
  | some (.dK _) => True
  | some (.dT _) => True
  | some (.set _ _) => True
  | some (.ins _ _ _) => True
  | some (.ext _) => True
  | _ => False
section
variable {P : Program} {w : World} {H : Hp} {h h' : Heap} {x e : Addr} {o' : HO}
/-- the object at e is changed: x itself, or the dict of the instance x -/
theorem HOk.write (ok : HOk P w H h) (mu : Mut (H x)) (he : e = x ∨ H e = some (.own x)) (k : ∀ b u, b ≠ e → h.get? b = some u → h'.get? b = some u) (heo : ∃ u, h'.get? e = some u)
    (new : ObjOk P w (upd H x o') h' x o') : HOk P w (upd H x o') h' := fun b u q => by
  have nown : ∀ c y, H c = some (.own y) → c ≠ x := fun c y r z => by subst z; rw [r] at mu; exact mu
  have ntup : ∀ c xs, H c = some (.tup xs) → c ≠ x := fun c xs r z => by subst z; rw [r] at mu; exact mu
  by_cases hb : b = x
  · subst hb; rw [upd_same] at q; cases q; exact new
  · rw [upd_ne hb] at q
    by_cases hbe : b = e
    · have q' : H b = some (.own x) := by
        rcases he with z | z
        · exact absurd (hbe.trans z) hb
        · rw [hbe]; exact z
      rw [q] at q'; cases q'
      obtain ⟨v, hv⟩ := heo
      exact ⟨v, by rw [hbe]; exact hv⟩
    · refine (ok b u q).stay (fun c v hc r => k c v ?_ r) (fun c r => by rw [upd_ne (nown c b r)]; exact r) fun c xs r => by rw [upd_ne (ntup c xs r)]; exact r
      rcases hc with rfl | hc
      · exact hbe
      · rintro rfl
        rcases he with z | z
        · exact nown c b hc z
        · rw [hc] at z; cases z; exact hb rfl
end

/-! ### kept unless tracked; of the frames at fs (the callers') the slots may change (an exception that passes writes there); of the records at ex (iterators) nothing is said -/
structure Un (fs ex : List Addr) (H H' : Hp) (h h' : Heap) : Prop where
  keep : ∀ b o, h.get? b = some o → H b = none → b ∉ fs → b ∉ ex → h'.get? b = some o
  slot : ∀ b o, h.get? b = some o → H b = none → b ∈ fs → b ∉ ex → ∃ sl, h'.get? b = some { o with slots := sl }
  free : ∀ b o, h.get? b = some o → H b = none → b ∉ ex → H' b = none
  there : ∀ b o, h.get? b = some o → b ∉ ex → ∃ o', h'.get? b = some o'
  tups : ∀ b xs, H b = some (.tup xs) → H' b = some (.tup xs)
  frzs : ∀ b o u, H b = some (.frz o u) → H' b = some (.frz o u)
  tbls : ∀ b ps, H b = some (.tbl ps) → ∃ more, H' b = some (.tbl (ps ++ more))
section
variable {fs fs' ex ex' : List Addr} {H H1 H2 : Hp} {h h1 h2 h' : Heap} {a x e : Addr} {o : HO}
theorem Un.any (u : Un fs ex H H1 h h1) {b : Addr} {ob : Obj} (q : h.get? b = some ob) (n : H b = none) (hx : b ∉ ex) : ∃ sl, h1.get? b = some { ob with slots := sl } := by
  by_cases hb : b ∈ fs
  · exact u.slot b ob q n hb hx
  · exact ⟨ob.slots, u.keep b ob q n hb hx⟩
theorem Un.kept (k : ∀ b u, h.get? b = some u → h'.get? b = some u) : Un fs ex H H h h' :=
  ⟨fun b ob q _ _ _ => k b ob q, fun b ob q _ _ _ => ⟨ob.slots, k b ob q⟩, fun _ _ _ n _ => n, fun b ob q _ => ⟨ob, k b ob q⟩, fun _ _ q => q, fun _ _ _ q => q, fun _ ps q => ⟨#[], by rw [q]; simp⟩⟩
theorem Un.refl : Un fs ex H H h h := Un.kept fun _ _ q => q
theorem Un.laid (k : ∀ b u, h.get? b = some u → h'.get? b = some u) (hp : h.objs.size ≤ a) (hn : H a = none) : Un fs ex H (upd H a o) h h' where
  keep := fun b u q _ _ _ => k b u q
  slot := fun b u q _ _ _ => ⟨u.slots, k b u q⟩
  free := fun b u q n _ => by rw [upd_ne (Nat.ne_of_lt (Nat.lt_of_lt_of_le (Heap.lt_size q) hp))]; exact n
  there := fun b u q _ => ⟨u, k b u q⟩
  tups := fun b xs q => by rw [upd_ne (ne_of_none q hn)]; exact q
  frzs := fun b u xs q => by rw [upd_ne (ne_of_none q hn)]; exact q
  tbls := fun b ps q => ⟨#[], by rw [upd_ne (ne_of_none q hn), q]; simp⟩
theorem Un.write (mu : Mut (H x)) (he : e = x ∨ H e = some (.own x)) (k : ∀ b u, b ≠ e → h.get? b = some u → h'.get? b = some u) (heo : ∃ u, h'.get? e = some u) : Un fs ex H (upd H x o) h h' := by
  have hx : ∀ b, H b = none → b ≠ x := fun b n z => by subst z; rw [n] at mu; exact mu
  have hb : ∀ b, H b = none → b ≠ e := fun b n z => by
    subst z
    rcases he with r | r
    · exact hx b n r
    · rw [n] at r; cases r
  have hm : ∀ b u, H b = some u → ¬ Mut (some u) → b ≠ x := fun b u q nm z => by subst z; rw [q] at mu; exact nm mu
  refine ⟨fun b u q n _ _ => k b u (hb b n) q, fun b u q n _ _ => ⟨u.slots, k b u (hb b n) q⟩, fun b u q n _ => by rw [upd_ne (hx b n)]; exact n, fun b u q _ => ?_,
    fun b xs q => by rw [upd_ne (hm b _ q fun z => z)]; exact q, fun b u xs q => by rw [upd_ne (hm b _ q fun z => z)]; exact q, fun b ps q => ⟨#[], by rw [upd_ne (hm b _ q fun z => z), q]; simp⟩⟩
  by_cases hbe : b = e
  · subst hbe; exact heo
  · exact ⟨u, k b u hbe q⟩
end

/-! ### the heap without what is tracked -/
def trk (h : Heap) (H : Hp) : List Addr := (List.range h.objs.size).filter fun a => (H a).isSome
def hidT (h : Heap) (H : Hp) : Heap := PySem.W.hideAll h (trk h H)
theorem hidT_size (h : Heap) (H : Hp) : (hidT h H).objs.size = h.objs.size := PySem.W.hideAll_size _ _
theorem hidT_get {h : Heap} {H : Hp} {b : Addr} {o : Obj} (e : h.get? b = some o) (n : H b = none) : (hidT h H).get? b = some o :=
  PySem.W.hideAll_get _ e fun hm => by
    have q : (H b).isSome = true := (List.mem_filter.mp hm).2
    rw [n] at q; simp at q
theorem of_hidT {h : Heap} {H : Hp} {b : Addr} {o : Obj} (e : (hidT h H).get? b = some o) : h.get? b = some o ∧ H b = none := by
  have e' : h.get? b = some o := PySem.W.of_hideAll (trk h H) e
  refine ⟨e', ?_⟩
  cases q : H b with
  | none => rfl
  | some x =>
    have hm : b ∈ trk h H := List.mem_filter.mpr ⟨List.mem_range.mpr (Heap.lt_size e'), by simp [q]⟩
    have z : (hidT h H).get? b = none := PySem.W.hideAll_none (trk h H) hm
    rw [z] at e; cases e

/-! ### OpenK's ledger, filled with every new object but one -/
def allNews (g h : Heap) (L : Addr) : List (Addr × Obj) := (List.range h.objs.size).filterMap fun a => if a = L ∨ (g.get? a).isSome = true then none else (h.get? a).map fun o => (a, o)
def rest (g h : Heap) (L d : Addr) : List (Addr × Obj) := (allNews g h L).filter fun p => decide (p.1 ≠ d)
end L2

namespace L2
open PySem PySem.Spec PyProof.Rows

/-- the module's facts, over the base: the heap at the law's entry without what is tracked there -/
structure Mod (K : PySem.W.Frag) (mg : Str → Option Value) (base : Heap) : Prop where
  kin : K.In base
  glob : base.Ns mainGlobals mg
  blt : ∃ mb, base.Ns builtinsNs mb ∧ ∀ x : Str, x ≠ "__name__" → mb x = bootBuiltins x
  nolimit : base.NoLimit

/-- the context: a def's body (or a comprehension's block) running. base: fixed through the whole law; s₀, H₀: the entry; outer: the frames whose slots others may change (a def's callers); stack: all frames that run;
   ex: iterators that were made ahead of the entry and are walked here (a comprehension's); fn: the names whose cells were made at the entry (a def: all; a comprehension's block: its own); calm: not within an except suite; pn: pins that every state bears; xe: what is wanted of an exception that leaves the code -/
structure Cx where
  prog : Program
  w : World
  K : PySem.W.Frag
  mg : Str → Option Value
  base : Heap
  A : Around
  N : List Str
  s₀ : Shared
  H₀ : Hp
  env : Env
  outer : List Env
  stack : List Env
  ex : List Addr
  fn : Str → Bool
  calm : Bool
  pn : List (Addr × Obj)
  xe : Value → Shared → Prop
/-- the callers' frames -/
def frs (l : List Env) : List Addr := l.filterMap (·.frame)
abbrev Cx.fs (X : Cx) : List Addr := frs X.outer

def Vis (sc : Scope) (x : Str) : Prop := sc.names.lookup x = some .local ∨ sc.names.lookup x = some .cell ∨ sc.names.lookup x = some .free
def Loc (sc : Scope) (x : Str) : Prop := sc.names.lookup x = some .local ∨ sc.names.lookup x = some .cell
def Look (env : Env) (h : Heap) (m : Str → Option Value) (x : Str) (u : Value) : Prop :=
  (env.kindOf x = some .local ∧ m x = some u) ∨ ((env.kindOf x = some .cell ∨ env.kindOf x = some .free) ∧ ∃ c, env.cells.lookup x = some c ∧ h.IsCell c (some u))

structure Cx.Ok (X : Cx) : Prop where
  mod : Mod X.K X.mg X.base
  kind : X.env.scope.kind = .function
  glob : X.env.globals = mainGlobals
  blt : X.env.builtins = builtinsNs
  above : X.s₀.heap.objs.size ≤ X.env.locals
  inj : ∀ x y c, X.env.cells.lookup x = some c → X.env.cells.lookup y = some c → x = y
  has : ∀ x, (X.env.kindOf x = some .cell ∨ X.env.kindOf x = some .free) → ∃ c, X.env.cells.lookup x = some c
  cab : ∀ x c, X.fn x = true → X.env.cells.lookup x = some c → X.s₀.heap.objs.size ≤ c
  hd : X.calm = true → X.A.handled = none
  frames : X.A.frames = some X.stack
  stk : X.stack = X.outer ∨ (X.stack = X.env :: X.outer ∧ X.env.frame = some X.env.locals)
  exf : ∀ b ∈ X.ex, b ≠ X.env.locals ∧ ∀ x c, X.env.cells.lookup x = some c → c ≠ b
  bs : ∀ b o, X.base.get? b = some o → X.s₀.heap.get? b = some o ∧ X.H₀ b = none
  bsz : X.base.objs.size ≤ X.s₀.heap.objs.size
  noex : ∀ b o, X.base.get? b = some o → b ∉ X.ex
  exfs : ∀ b ∈ X.ex, b ∉ X.fs
  funs : X.s₀.heap.FunFrames X.base X.outer
  frf : ∀ b ∈ X.fs, X.H₀ b = none

structure Inv (X : Cx) (pins : List (Addr × Obj)) (σ : List (Option V)) (H : Hp) (s : Shared) : Prop where
  ok : X.Ok
  os : s.os = X.s₀.os
  bare : AllBare s.gens
  base : Un X.fs X.ex X.H₀ H X.s₀.heap s.heap
  loc : ∃ m, s.heap.Ns X.env.locals m ∧ ∀ (i : Nat) (x : Str) (v : V), X.N[i]? = some x → σ[i]? = some (some v) → Vis X.env.scope x → ∃ u, RelV v u ∧ Look X.env s.heap m x u
  cell : ∀ x c, X.env.cells.lookup x = some c → ∃ v, s.heap.IsCell c v
  free : H X.env.locals = none
  freeC : ∀ x c, X.env.cells.lookup x = some c → H c = none
  pin : ∀ p ∈ X.pn ++ pins, s.heap.get? p.1 = some p.2 ∧ H p.1 = none ∧ p.1 ≠ X.env.locals ∧ p.1 ∉ X.fs ∧ ∀ v, p.2.data ≠ .cell v
  hok : HOk X.prog X.w H s.heap
  len : σ.length = X.N.length

section
variable {X : Cx} {pins : List (Addr × Obj)} {σ : List (Option V)} {H H' : Hp} {s : Shared} {h' : Heap}

theorem Cx.Ok.nofr (ok : X.Ok) {b : Addr} {o : Obj} (e : X.base.get? b = some o) : b ∉ X.fs := fun hb => by
  have := (ok.funs.mem hb).1
  rw [e] at this; cases this
theorem Inv.bs (I : Inv X pins σ H s) : ∀ b o, X.base.get? b = some o → s.heap.get? b = some o ∧ H b = none := fun b o e =>
  ⟨I.base.keep b o (I.ok.bs b o e).1 (I.ok.bs b o e).2 (I.ok.nofr e) (I.ok.noex b o e), I.base.free b o (I.ok.bs b o e).1 (I.ok.bs b o e).2 (I.ok.noex b o e)⟩
theorem Inv.bk (I : Inv X pins σ H s) : ∀ b o, X.base.get? b = some o → s.heap.get? b = some o := fun b o e => (I.bs b o e).1
theorem Inv.mod (I : Inv X pins σ H s) : Mod X.K X.mg X.base := I.ok.mod
theorem Inv.kIn (I : Inv X pins σ H s) : X.K.In s.heap := I.ok.mod.kin.keeps I.bk
theorem Inv.lt (I : Inv X pins σ H s) : X.env.locals < s.heap.objs.size := let ⟨_, hn, _⟩ := I.loc; hn.lt
theorem Inv.sz (I : Inv X pins σ H s) : X.s₀.heap.objs.size ≤ s.heap.objs.size := Nat.le_trans I.ok.above (Nat.le_of_lt I.lt)
theorem Inv.nofs (I : Inv X pins σ H s) {a : Addr} (h : s.heap.objs.size ≤ a) : a ∉ X.fs := fun hb => by
  obtain ⟨_, o, ho, _⟩ := I.ok.funs.mem hb
  exact absurd (Nat.lt_of_lt_of_le (Heap.lt_size ho) (Nat.le_trans I.sz h)) (Nat.lt_irrefl _)
theorem Inv.cne (I : Inv X pins σ H s) : ∀ x c, X.env.cells.lookup x = some c → c ≠ X.env.locals := fun x c e z => by
  obtain ⟨v, o, ho, hd⟩ := I.cell x c e
  obtain ⟨m, ⟨o', es, ep, ho', hd', _⟩, _⟩ := I.loc
  rw [z, ho'] at ho; cases ho; rw [hd'] at hd; cases hd
theorem Inv.funs (I : Inv X pins σ H s) : s.heap.FunFrames X.base X.outer := by
  have all : ∀ (l : List Env), (∀ b ∈ frs l, b ∈ X.fs) → X.s₀.heap.FunFrames X.base l → s.heap.FunFrames X.base l := by
    intro l
    induction l with
    | nil => intro _ _; trivial
    | cons env r ih =>
      intro hs hl
      obtain ⟨hk, ⟨L, o, hf, hn, ho, hd⟩, hr⟩ := hl
      have hL : L ∈ X.fs := hs L (by unfold frs; rw [List.filterMap_cons, hf]; exact List.mem_cons_self)
      obtain ⟨sl, e⟩ := I.base.slot L o ho (I.ok.frf L hL) hL fun z => I.ok.exfs L z hL
      exact ⟨hk, ⟨L, _, hf, hn, e, hd⟩, ih (fun b hb => hs b (by unfold frs; rw [List.filterMap_cons, hf]; exact List.mem_cons_of_mem _ hb)) hr⟩
  exact all X.outer (fun _ hb => hb) I.ok.funs

/-- the frames that run, for a call -/
theorem Inv.stack (I : Inv X pins σ H s) : s.heap.FunFrames X.base X.stack := by
  rcases I.ok.stk with e | ⟨e, hf⟩
  · rw [e]; exact I.funs
  · rw [e]
    obtain ⟨m, hn, _⟩ := I.loc
    refine .cons (by rw [I.ok.kind]; decide) hf hn ?_ I.funs
    exact Heap.get?_none_of_le (Nat.le_trans I.ok.bsz I.ok.above)
theorem Inv.stkSub (I : Inv X pins σ H s) : ∀ b ∈ frs X.stack, b ∈ X.env.locals :: X.fs := fun b hb => by
  rcases I.ok.stk with e | ⟨e, hf⟩
  · rw [e] at hb; exact List.mem_cons_of_mem _ hb
  · rw [e] at hb
    unfold frs at hb
    rw [List.filterMap_cons, hf] at hb
    exact hb
theorem Inv.stkFree (I : Inv X pins σ H s) : ∀ b ∈ frs X.stack, H b = none := fun b hb => by
  rcases List.mem_cons.mp (I.stkSub b hb) with e | hb
  · rw [e]; exact I.free
  · obtain ⟨_, o, ho, _⟩ := I.ok.funs.mem hb
    exact I.base.free b o ho (I.ok.frf b hb) fun z => I.ok.exfs b z hb

/-- THE STEP: the untracked objects but the frame and the records at ch are kept (the callers' frames up to slots), the frame's map is kept, the new abstract heap is held -/
theorem Inv.step {g' : Array GenState} {t' : Nat} {d' : Drawn} {ch : List Addr} (I : Inv X pins σ H s)
    (hch : ∀ b ∈ ch, (b ∈ X.ex ∨ X.s₀.heap.objs.size ≤ b) ∧ b ≠ X.env.locals ∧ (∀ x c, X.env.cells.lookup x = some c → c ≠ b) ∧ ∀ p ∈ X.pn ++ pins, p.1 ≠ b)
    (keep : ∀ b o, b ≠ X.env.locals → b ∉ X.fs → b ∉ ch → s.heap.get? b = some o → H b = none → h'.get? b = some o)
    (slot : ∀ b o, b ≠ X.env.locals → b ∈ X.fs → b ∉ ch → s.heap.get? b = some o → H b = none → ∃ sl, h'.get? b = some { o with slots := sl }) (free : ∀ b o, b ∉ ch → s.heap.get? b = some o → H b = none → H' b = none)
    (there : ∀ b o, b ∉ ch → s.heap.get? b = some o → ∃ o', h'.get? b = some o')
    (tups : ∀ b xs, H b = some (.tup xs) → H' b = some (.tup xs)) (frzs : ∀ b o u, H b = some (.frz o u) → H' b = some (.frz o u)) (tbls : ∀ b ps, H b = some (.tbl ps) → ∃ more, H' b = some (.tbl (ps ++ more)))
    (ns : ∀ m, s.heap.Ns X.env.locals m → h'.Ns X.env.locals m) (hok : HOk X.prog X.w H' h') (hg : AllBare g') :
    Inv X pins σ H' { s with heap := h', gens := g', drawn := d', toks := t' } := by
  have neL : ∀ b o, X.s₀.heap.get? b = some o → b ≠ X.env.locals := fun b o e => Nat.ne_of_lt (Nat.lt_of_lt_of_le (Heap.lt_size e) I.ok.above)
  have neC : ∀ b o, X.s₀.heap.get? b = some o → b ∉ X.ex → b ∉ ch := fun b o e hx hb => by
    rcases (hch b hb).1 with z | z
    · exact hx z
    · exact absurd (Nat.lt_of_lt_of_le (Heap.lt_size e) z) (Nat.lt_irrefl _)
  have cellK : ∀ x c, X.env.cells.lookup x = some c → ∀ v, s.heap.IsCell c v → h'.IsCell c v := fun x c e v ⟨o, ho, hd⟩ => by
    have nch : c ∉ ch := fun z => (hch c z).2.2.1 x c e rfl
    by_cases hc : c ∈ X.fs
    · obtain ⟨sl, q⟩ := slot c o (I.cne x c e) hc nch ho (I.freeC x c e)
      exact ⟨_, q, hd⟩
    · exact ⟨o, keep c o (I.cne x c e) hc nch ho (I.freeC x c e), hd⟩
  refine ⟨I.ok, I.os, hg, ⟨fun b o e n hb hx => ?_, fun b o e n hb hx => ?_, fun b o e n hx => ?_, fun b o e hx => ?_, fun b xs e => tups b xs (I.base.tups b xs e), fun b o xs e => frzs b o xs (I.base.frzs b o xs e), fun b ps e => ?_⟩, ?_, fun x c e => ?_, ?_, fun x c e => ?_, fun p hp => ?_, hok, I.len⟩
  · exact keep b o (neL b o e) hb (neC b o e hx) (I.base.keep b o e n hb hx) (I.base.free b o e n hx)
  · obtain ⟨sl, e1⟩ := I.base.slot b o e n hb hx
    obtain ⟨sl', e2⟩ := slot b _ (neL b o e) hb (neC b o e hx) e1 (I.base.free b o e n hx)
    exact ⟨sl', e2⟩
  · obtain ⟨o', e1⟩ := I.base.there b o e hx
    exact free b o' (neC b o e hx) e1 (I.base.free b o e n hx)
  · obtain ⟨o', e1⟩ := I.base.there b o e hx
    exact there b o' (neC b o e hx) e1
  · obtain ⟨m1, e1⟩ := I.base.tbls b ps e
    obtain ⟨m2, e2⟩ := tbls b _ e1
    exact ⟨m1 ++ m2, by rw [e2, Array.append_assoc]⟩
  · obtain ⟨m, hn, hl⟩ := I.loc
    refine ⟨m, ns m hn, fun i x v e1 e2 e3 => ?_⟩
    obtain ⟨u, r, l⟩ := hl i x v e1 e2 e3
    refine ⟨u, r, ?_⟩
    rcases l with l | ⟨k, c, e, z⟩
    · exact .inl l
    · exact .inr ⟨k, c, e, cellK x c e _ z⟩
  · obtain ⟨v, z⟩ := I.cell x c e
    exact ⟨v, cellK x c e v z⟩
  · obtain ⟨m, ⟨o, _, _, ho, _⟩, _⟩ := I.loc
    exact free _ o (fun z => (hch _ z).2.1 rfl) ho I.free
  · obtain ⟨v, o, ho, hd⟩ := I.cell x c e
    exact free c o (fun z => (hch c z).2.2.1 x c e rfl) ho (I.freeC x c e)
  · obtain ⟨e, n, ne, nf, d⟩ := I.pin p hp
    have nch : p.1 ∉ ch := fun z => (hch p.1 z).2.2.2 p hp rfl
    exact ⟨keep p.1 p.2 ne nf nch e n, free p.1 p.2 nch e n, ne, nf, d⟩
/-- .. where the frame's own object is kept too -/
theorem Inv.un {t' : Nat} (I : Inv X pins σ H s) (u : Un X.fs [] H H' s.heap h') (hok : HOk X.prog X.w H' h') : Inv X pins σ H' { s with heap := h', toks := t' } := by
  obtain ⟨m, ⟨o, es, ep, ho, r⟩, _⟩ := id I.loc
  obtain ⟨sl, hL⟩ := u.any ho I.free (by simp)
  exact I.step (g' := s.gens) (d' := s.drawn) (ch := []) (fun _ z => nomatch z) (fun b o _ hb _ e n => u.keep b o e n hb (by simp)) (fun b o _ hb _ e n => u.slot b o e n hb (by simp)) (fun b o _ e n => u.free b o e n (by simp)) (fun b o _ e => u.there b o e (by simp)) u.tups u.frzs u.tbls (fun m' hm => by
    obtain ⟨o', es', ep', ho', r'⟩ := hm
    rw [ho] at ho'; cases ho'
    exact ⟨_, es', ep', hL, r'⟩) hok I.bare
/-- behind a call (or a comprehension's block): the slots of this frame may have changed too, the records at ch may have turned -/
theorem Inv.call {g' : Array GenState} {t' : Nat} {d' : Drawn} {ch : List Addr} (I : Inv X pins σ H s) (u : Un (frs X.stack) ch H H' s.heap h') (hok : HOk X.prog X.w H' h') (hg : AllBare g')
    (hch : ∀ b ∈ ch, (b ∈ X.ex ∨ X.s₀.heap.objs.size ≤ b) ∧ b ≠ X.env.locals ∧ (∀ x c, X.env.cells.lookup x = some c → c ≠ b) ∧ ∀ p ∈ X.pn ++ pins, p.1 ≠ b) :
    Inv X pins σ H' { s with heap := h', gens := g', drawn := d', toks := t' } := by
  obtain ⟨m, ⟨o, es, ep, ho, r⟩, _⟩ := id I.loc
  obtain ⟨sl, hL⟩ := u.any ho I.free fun z => (hch _ z).2.1 rfl
  exact I.step (ch := ch) hch (fun b o hL hb hc e n => u.keep b o e n (fun z => (List.mem_cons.mp (I.stkSub b z)).elim hL hb) hc) (fun b o _ _ hc e n => u.any e n hc) (fun b o hc e n => u.free b o e n hc) (fun b o hc e => u.there b o e hc) u.tups u.frzs u.tbls (fun m' hm => by
    obtain ⟨o', es', ep', ho', r'⟩ := hm
    rw [ho] at ho'; cases ho'
    exact ⟨_, es', ep', hL, r'⟩) hok hg
/-- an untracked record of ours (an iterator) has turned -/
theorem Inv.turned {t' : Nat} {it : Addr} (I : Inv X pins σ H s) (k : ∀ b o, b ≠ it → s.heap.get? b = some o → h'.get? b = some o) (hn : H it = none) (hL : it ≠ X.env.locals)
    (h1 : it ∈ X.ex ∨ X.s₀.heap.objs.size ≤ it) (h2 : ∀ x c, X.env.cells.lookup x = some c → c ≠ it) (h3 : ∀ p ∈ X.pn ++ pins, p.1 ≠ it) : Inv X pins σ H { s with heap := h', toks := t' } := by
  have nit : ∀ b u, H b = some u → b ≠ it := fun b u e z => by rw [z, hn] at e; cases e
  refine I.step (g' := s.gens) (d' := s.drawn) (ch := [it]) (fun b hb => ?_) (fun b o _ _ hc e _ => k b o (fun z => hc (by simp [z])) e) (fun b o _ _ hc e _ => ⟨o.slots, k b o (fun z => hc (by simp [z])) e⟩) (fun _ _ _ _ n => n)
    (fun b o hc e => ⟨o, k b o (fun z => hc (by simp [z])) e⟩) (fun _ _ e => e) (fun _ _ _ e => e) (fun b ps e => ⟨#[], by rw [e]; simp⟩) (fun m hm => ?_) (fun b u e => ?_) I.bare
  · have e : b = it := by simpa using hb
    subst e
    exact ⟨h1, hL, h2, h3⟩
  · obtain ⟨o, es, ep, ho, r⟩ := hm
    exact ⟨o, es, ep, k _ o (Ne.symm hL) ho, r⟩
  · refine (I.hok b u e).stay (fun c v hc q => k c v ?_ q) (fun _ q => q) fun _ _ q => q
    rcases hc with z | z
    · rw [z]; exact nit b u e
    · exact nit c _ z
theorem Inv.tok (I : Inv X pins σ H s) (t : Nat) : Inv X pins σ H { s with toks := t } := I.un (h' := s.heap) (t' := t) Un.refl I.hok
/-- all objects kept -/
theorem Inv.kept {t' : Nat} (I : Inv X pins σ H s) (k : ∀ b u, s.heap.get? b = some u → h'.get? b = some u) : Inv X pins σ H { s with heap := h', toks := t' } := I.un (Un.kept k) (I.hok.kept k)
/-- a new object laid and tracked -/
theorem Inv.laid {a : Addr} {o : HO} {t' : Nat} (I : Inv X pins σ H s) (k : ∀ b u, s.heap.get? b = some u → h'.get? b = some u) (hp : s.heap.objs.size ≤ a) (new : ObjOk X.prog X.w (upd H a o) h' a o) :
    Inv X pins σ (upd H a o) { s with heap := h', toks := t' } := I.un (Un.laid k hp (I.hok.fresh hp)) (I.hok.laid k hp new)
/-- an object written -/
theorem Inv.write {x e : Addr} {o : HO} {t' : Nat} (I : Inv X pins σ H s) (mu : Mut (H x)) (he : e = x ∨ H e = some (.own x)) (k : ∀ b u, b ≠ e → s.heap.get? b = some u → h'.get? b = some u) (heo : ∃ u, h'.get? e = some u)
    (new : ObjOk X.prog X.w (upd H x o) h' x o) : Inv X pins σ (upd H x o) { s with heap := h', toks := t' } := I.un (Un.write mu he k heo) (I.hok.write mu he k heo new)
/-- forgetting slots, pins -/
theorem Inv.weak {σ' : List (Option V)} (I : Inv X pins σ H s) (hl : σ'.length = σ.length) (w : ∀ (i : Nat) v, σ'[i]? = some (some v) → σ[i]? = some (some v)) : Inv X pins σ' H s :=
  ⟨I.ok, I.os, I.bare, I.base, let ⟨m, hn, hl'⟩ := I.loc; ⟨m, hn, fun i x v e1 e2 e3 => hl' i x v e1 (w i v e2) e3⟩, I.cell, I.free, I.freeC, I.pin, I.hok, hl.trans I.len⟩
theorem Inv.pins_of {pins' : List (Addr × Obj)} (I : Inv X pins σ H s) (h : ∀ p ∈ pins', s.heap.get? p.1 = some p.2 ∧ H p.1 = none ∧ p.1 ≠ X.env.locals ∧ p.1 ∉ X.fs ∧ ∀ v, p.2.data ≠ .cell v) : Inv X pins' σ H s :=
  ⟨I.ok, I.os, I.bare, I.base, I.loc, I.cell, I.free, I.freeC, fun p hp => (List.mem_append.mp hp).elim (fun z => I.pin p (List.mem_append_left _ z)) (h p), I.hok, I.len⟩

theorem nodup_ix {N : List Str} (hN : N.Nodup) {i j : Nat} {x : Str} (a : N[i]? = some x) (b : N[j]? = some x) : i = j := by
  obtain ⟨h1, e1⟩ := List.getElem?_eq_some_iff.mp a
  obtain ⟨h2, e2⟩ := List.getElem?_eq_some_iff.mp b
  exact (List.getElem_inj hN).mp (e1.trans e2.symm)

/-- a name is stored; what changed -/
theorem store_ok2 {M : Model} {A : Around} {E : Value → Shared → Prop} {i : Nat} {x : Str} {v : V} {u : Value} {Q : Unit → Shared → Prop} (I : Inv X pins σ H s) (hN : X.N.Nodup) (hi : X.N[i]? = some x) (hx : Loc X.env.scope x) (r : RelV v u)
    (h : ∀ s', Inv X pins (σ.set i (some v)) H s' → (∃ a, Heap.SameBut a s.heap s'.heap ∧ (a = X.env.locals ∨ X.env.cells.lookup x = some a)) → Q () s') (hf : X.fn x = true ∨ X.env.scope.names.lookup x = some .local := by first | exact .inl rfl | exact .inr rfl | assumption) : wpAny M A (storeName X.env x u) Q E s := by
  obtain ⟨m, hn, hl⟩ := id I.loc
  have hcls : (X.env.scope.kind == .class || (X.env.scope.kind == .module && X.env.locals != X.env.globals)) = false := by rw [I.ok.kind]; rfl
  have hiσ : i < σ.length := by rw [I.len]; exact (List.getElem?_eq_some_iff.mp hi).1
  have cne := I.cne
  have tracked : ∀ {a : Addr} {h' : Heap}, (∃ o, s.heap.get? a = some o ∧ H a = none) → Heap.SameBut a s.heap h' → HOk X.prog X.w H h' := fun {a h'} ha hs b ob e => by
    obtain ⟨_, _, hfree⟩ := ha
    refine (I.hok b ob e).stay (fun c w' hc q => (hs.2 c ?_).trans q) (fun _ q => q) fun _ _ q => q
    rintro rfl
    rcases hc with rfl | hc
    · rw [hfree] at e; cases e
    · rw [hfree] at hc; cases hc
  rcases hx with hk | hk
  · refine wpAny_storeName_local hk hn (fun h' hn' hs => ?_) hcls
    obtain ⟨oL, _, _, hoL, _⟩ := id hn
    refine h _ ⟨I.ok, I.os, I.bare, ⟨fun b o e n hb hx => ?_, fun b o e n hb hx => ?_, I.base.free, fun b o e hx => ?_, I.base.tups, I.base.frzs, I.base.tbls⟩, ⟨_, hn', fun j y v' e1 e2 e3 => ?_⟩, fun y c e => ?_, I.free, I.freeC, fun p hp => ?_, tracked ⟨oL, hoL, I.free⟩ hs, by simpa using I.len⟩ ⟨_, hs, .inl rfl⟩
    · exact (hs.2 b (Nat.ne_of_lt (Nat.lt_of_lt_of_le (Heap.lt_size e) I.ok.above))).trans (I.base.keep b o e n hb hx)
    · obtain ⟨sl, e1⟩ := I.base.slot b o e n hb hx
      exact ⟨sl, (hs.2 b (Nat.ne_of_lt (Nat.lt_of_lt_of_le (Heap.lt_size e) I.ok.above))).trans e1⟩
    · obtain ⟨o', e1⟩ := I.base.there b o e hx
      exact ⟨o', (hs.2 b (Nat.ne_of_lt (Nat.lt_of_lt_of_le (Heap.lt_size e) I.ok.above))).trans e1⟩
    · by_cases hj : j = i
      · subst hj
        rw [hi] at e1; cases e1
        rw [List.getElem?_set_self hiσ] at e2
        cases e2
        exact ⟨u, r, .inl ⟨hk, by simp⟩⟩
      · rw [List.getElem?_set_ne (Ne.symm hj)] at e2
        obtain ⟨u', r', q⟩ := hl j y v' e1 e2 e3
        refine ⟨u', r', ?_⟩
        rcases q with ⟨k, e⟩ | ⟨k, c, e, z⟩
        · refine .inl ⟨k, ?_⟩
          have : y ≠ x := fun e => hj (nodup_ix hN e1 (e ▸ hi))
          simp [this, e]
        · exact .inr ⟨k, c, e, z.sameBut hs (cne y c e)⟩
    · obtain ⟨w', z⟩ := I.cell y c e
      exact ⟨w', z.sameBut hs (cne y c e)⟩
    · obtain ⟨e, n, ne, nf, d⟩ := I.pin p hp
      exact ⟨(hs.2 p.1 ne).trans e, n, ne, nf, d⟩
  · have hfn : X.fn x = true := by
      rcases hf with z | z
      · exact z
      · rw [z] at hk; cases hk
    obtain ⟨c, hc⟩ := I.ok.has x (.inl hk)
    obtain ⟨w', z⟩ := I.cell x c hc
    refine wpAny_storeName_cell I.ok.kind hk hc z (fun h' hc' hs => ?_)
    obtain ⟨oc, hoc, hocd⟩ := id z
    refine h { s with heap := h' } ⟨I.ok, I.os, I.bare, ⟨fun b o e n hb hx => ?_, fun b o e n hb hx => ?_, I.base.free, fun b o e hx => ?_, I.base.tups, I.base.frzs, I.base.tbls⟩, ⟨m, hn.sameBut hs (Ne.symm (cne x c hc)), fun j y v' e1 e2 e3 => ?_⟩, fun y c' e => ?_, I.free, I.freeC, fun p hp => ?_, tracked ⟨oc, hoc, I.freeC x c hc⟩ hs, by simpa using I.len⟩ ⟨c, hs, .inr hc⟩
    · exact (hs.2 b (Nat.ne_of_lt (Nat.lt_of_lt_of_le (Heap.lt_size e) (I.ok.cab x c hfn hc)))).trans (I.base.keep b o e n hb hx)
    · obtain ⟨sl, e1⟩ := I.base.slot b o e n hb hx
      exact ⟨sl, (hs.2 b (Nat.ne_of_lt (Nat.lt_of_lt_of_le (Heap.lt_size e) (I.ok.cab x c hfn hc)))).trans e1⟩
    · obtain ⟨o', e1⟩ := I.base.there b o e hx
      exact ⟨o', (hs.2 b (Nat.ne_of_lt (Nat.lt_of_lt_of_le (Heap.lt_size e) (I.ok.cab x c hfn hc)))).trans e1⟩
    · by_cases hj : j = i
      · subst hj
        rw [hi] at e1; cases e1
        rw [List.getElem?_set_self hiσ] at e2
        cases e2
        exact ⟨u, r, .inr ⟨.inl hk, c, hc, hc'⟩⟩
      · rw [List.getElem?_set_ne (Ne.symm hj)] at e2
        obtain ⟨u', r', q⟩ := hl j y v' e1 e2 e3
        refine ⟨u', r', ?_⟩
        rcases q with q | ⟨k, c', e, z'⟩
        · exact .inl q
        · refine .inr ⟨k, c', e, z'.sameBut hs ?_⟩
          rintro rfl
          exact hj (nodup_ix hN e1 (I.ok.inj _ _ _ e hc ▸ hi))
    · by_cases hcc : c' = c
      · subst hcc; exact ⟨_, hc'⟩
      · obtain ⟨w2, z2⟩ := I.cell y c' e
        exact ⟨w2, z2.sameBut hs hcc⟩
    · obtain ⟨e, n, ne, nf, d⟩ := I.pin p hp
      refine ⟨(hs.2 p.1 ?_).trans e, n, ne, nf, d⟩
      intro q
      rw [q, hoc] at e
      have q' : oc = p.2 := Option.some.inj e
      exact d w' (by rw [← q']; exact hocd)
theorem store_ok {M : Model} {A : Around} {E : Value → Shared → Prop} {i : Nat} {x : Str} {v : V} {u : Value} {Q : Unit → Shared → Prop} (I : Inv X pins σ H s) (hN : X.N.Nodup) (hi : X.N[i]? = some x) (hx : Loc X.env.scope x) (r : RelV v u)
    (h : ∀ s', Inv X pins (σ.set i (some v)) H s' → Q () s') (hf : X.fn x = true ∨ X.env.scope.names.lookup x = some .local := by first | exact .inl rfl | exact .inr rfl | assumption) : wpAny M A (storeName X.env x u) Q E s :=
  store_ok2 I hN hi hx r (fun s' I' _ => h s' I') hf
/-- behind a call or a block, the state as it is -/
theorem Inv.call' {s' : Shared} {ch : List Addr} (I : Inv X pins σ H s) (ho : s'.os = s.os) (u : Un (frs X.stack) ch H H' s.heap s'.heap) (hok : HOk X.prog X.w H' s'.heap) (hg : AllBare s'.gens)
    (hch : ∀ b ∈ ch, (b ∈ X.ex ∨ X.s₀.heap.objs.size ≤ b) ∧ b ≠ X.env.locals ∧ (∀ x c, X.env.cells.lookup x = some c → c ≠ b) ∧ ∀ p ∈ X.pn ++ pins, p.1 ≠ b) : Inv X pins σ H' s' := by
  obtain ⟨h', g', d', t', o'⟩ := s'
  have e : o' = s.os := ho
  subst e
  exact I.call (g' := g') (t' := t') (d' := d') u hok hg hch
end

/-! ### the judgements -/
/-- an exception: its class, its own dict's address (where it has one), the abstract heap behind it -/
abbrev XK := Value → Option Addr → Hp → Prop
abbrev St := List (Option V)
abbrev VK := V → Hp → Prop
/-- an expression's reading; a test's; an argument list's -/
abbrev TE := St → Hp → VK → Prop
abbrev TT := St → Hp → (Bool → Hp → Prop) → Prop
abbrev TA := St → Hp → (List V → Hp → Prop) → Prop
/-- what is wanted behind a statement -/
structure Ends where
  nx : St → Hp → Prop
  rt : VK
  bk : St → Hp → Prop := fun _ _ => False
  ct : St → Hp → Prop := fun _ _ => False
abbrev TS := Ends → St → Hp → Prop

def EP (X : Cx) (pins : List (Addr × Obj)) (σ : St) (Q : VK) (u : Value) (s' : Shared) : Prop := ∃ v H', Inv X pins σ H' s' ∧ RelV v u ∧ Q v H'
def TP (X : Cx) (pins : List (Addr × Obj)) (σ : St) (Q : Bool → Hp → Prop) (b : Bool) (s' : Shared) : Prop := ∃ H', Inv X pins σ H' s' ∧ Q b H'
def AP (X : Cx) (pins : List (Addr × Obj)) (σ : St) (Q : List V → Hp → Prop) (us : List Value) (s' : Shared) : Prop := ∃ vs H', Inv X pins σ H' s' ∧ Vals vs us ∧ Q vs H'
def SP (X : Cx) (pins : List (Addr × Obj)) (D : Ends) (f : Flow) (s' : Shared) : Prop :=
  match f with
  | .next => ∃ σ' H', Inv X pins σ' H' s' ∧ D.nx σ' H'
  | .brk => ∃ σ' H', Inv X pins σ' H' s' ∧ D.bk σ' H'
  | .cont => ∃ σ' H', Inv X pins σ' H' s' ∧ D.ct σ' H'
  | .ret u => ∃ v σ' H', Inv X pins σ' H' s' ∧ RelV v u ∧ D.rt v H'

def PE (X : Cx) (e : Expr) (t : TE) : Prop :=
  ∀ (pins : List (Addr × Obj)) (s : Shared) (σ : St) (H : Hp) (Q : VK), Inv X pins σ H s → t σ H Q → wpAny (model X.prog X.w) X.A (eval e X.env) (EP X pins σ Q) X.xe s
def PT (X : Cx) (e : Expr) (t : TT) : Prop :=
  ∀ (pins : List (Addr × Obj)) (s : Shared) (σ : St) (H : Hp) (Q : Bool → Hp → Prop), Inv X pins σ H s → t σ H Q → wpAny (model X.prog X.w) X.A (isTrue e X.env (eval e X.env)) (TP X pins σ Q) X.xe s
/-- a test whatever its 'whole' is (and, or) -/
def PW (X : Cx) (e : Expr) (t : TT) : Prop :=
  ∀ (whole : Sem Value) (pins : List (Addr × Obj)) (s : Shared) (σ : St) (H : Hp) (Q : Bool → Hp → Prop), Inv X pins σ H s → t σ H Q → wpAny (model X.prog X.w) X.A (isTrue e X.env whole) (TP X pins σ Q) X.xe s
theorem PW.pt {X : Cx} {e : Expr} {t : TT} (h : PW X e t) : PT X e t := h _
/-- an argument list (no star), from the left -/
def PA (X : Cx) (es : List Expr) (t : TA) : Prop :=
  ∀ (pos : Pos) (pins : List (Addr × Obj)) (s : Shared) (σ : St) (H : Hp) (Q : List V → Hp → Prop), Inv X pins σ H s → t σ H Q → wpAny (model X.prog X.w) X.A (spliced (backTo pos (starEach es X.env))) (AP X pins σ Q) X.xe s
def PS (X : Cx) (st : Stmt) (t : TS) : Prop :=
  ∀ (pins : List (Addr × Obj)) (s : Shared) (σ : St) (H : Hp) (D : Ends), Inv X pins σ H s → t D σ H → wpAny (model X.prog X.w) X.A (exec st X.env) (SP X pins D) X.xe s
def PSs (X : Cx) (st : List Stmt) (t : TS) : Prop :=
  ∀ (pins : List (Addr × Obj)) (s : Shared) (σ : St) (H : Hp) (D : Ends), Inv X pins σ H s → t D σ H → wpAny (model X.prog X.w) X.A (execs st X.env) (SP X pins D) X.xe s
/-- weaken the end -/
theorem thn {α : Type} {t : Sem α} {Q Q' : α → Shared → Prop} {M : Model} {A : Around} {E : Value → Shared → Prop} {s : Shared} (h : wpAny M A t Q E s) (hQ : ∀ a s, Q a s → Q' a s) : wpAny M A t Q' E s := wpAny_mono h hQ fun _ _ x => x
end L2

namespace L2
open PySem PySem.Spec PyProof.Rows
section
variable {X : Cx}

/-! ### names and constants -/
def tVar (i : Nat) : TE := fun σ H Q => ∃ v, σ[i]? = some (some v) ∧ Q v H
def tC (v : V) : TE := fun _ H Q => Q v H
theorem pe_var {i : Nat} {x : Str} {pos : Pos} (hN : X.N[i]? = some x) (hv : Vis X.env.scope x) (hd : (x == ("__debug__" : Str)) = false := by decide) (hcd : (x == ("__classdict__" : Str)) = false := by decide) : PE X (.Name x pos) (tVar i) := by
  intro pins s σ H Q I h
  obtain ⟨v, e, h⟩ := h
  obtain ⟨m, hn, hl⟩ := I.loc
  obtain ⟨u, r, l⟩ := hl i x v hN e hv
  have fin : EP X pins σ Q u s := ⟨v, H, I, r, h⟩
  rcases l with ⟨hk, hm⟩ | ⟨hk, c, hc, hcell⟩
  · exact wpAny_Name (wpAny_loadName_local I.ok.kind hk hn hm fin) hd
  · rcases hk with hk | hk
    · exact wpAny_Name (wpAny_loadName_cell I.ok.kind hk hc hcell fin) hd
    · exact wpAny_Name (wpAny_loadName_free I.ok.kind hk hc hcell fin hcd) hd
theorem pe_int {i j pos} : PE X (.Constant (.int i) j pos) (tC (.int i)) := fun _ _ _ H _ I h => wpAny_Constant_int ⟨.int i, H, I.tok _, ⟨_, rfl⟩, h⟩
theorem pe_bl {b j pos} : PE X (.Constant (.bool b) j pos) (tC (.bl b)) := fun _ _ _ H _ I h => Constant_bool ⟨.bl b, H, I, rfl, h⟩
theorem pe_non {j pos} : PE X (.Constant .none j pos) (tC .non) := fun _ _ _ H _ I h => Constant_none ⟨.non, H, I, rfl, h⟩
/-- a global name of the def -/
def Gl (X : Cx) (x : Str) : Prop := X.env.kindOf x = some .globalImplicit
theorem ld_glob {E : Value → Shared → Prop} {pins : List (Addr × Obj)} {s : Shared} {σ : St} {H : Hp} {x : Str} {u : Value} {pos : Pos} {Q : Value → Shared → Prop} (I : Inv X pins σ H s) (hg : Gl X x) (hm : X.mg x = some u) (h : Q u s)
    (hd : (x == ("__debug__" : Str)) = false := by decide) : wpAny (model X.prog X.w) X.A (eval (.Name x pos) X.env) Q E s :=
  Calls.Name_function_global I.ok.kind hg (Calls.loadGlobal_global (by rw [I.ok.glob]; exact I.mod.glob.keeps I.bk) hm h) hd
theorem ld_blt {E : Value → Shared → Prop} {pins : List (Addr × Obj)} {s : Shared} {σ : St} {H : Hp} {x : Str} {u : Value} {pos : Pos} {Q : Value → Shared → Prop} (I : Inv X pins σ H s) (hg : Gl X x) (hm : X.mg x = none) (hv : bootBuiltins x = some u) (h : Q u s)
    (hn : x ≠ "__name__" := by decide) (hd : (x == ("__debug__" : Str)) = false := by decide) : wpAny (model X.prog X.w) X.A (eval (.Name x pos) X.env) Q E s := by
  obtain ⟨mb, h1, h2⟩ := I.mod.blt
  exact Calls.Name_function_global I.ok.kind hg (Calls.loadGlobal_builtin (by rw [I.ok.glob]; exact I.mod.glob.keeps I.bk) hm (by rw [I.ok.blt]; exact h1.keeps I.bk) ((h2 x hn).trans hv) h) hd
theorem pe_bltn {x : Str} {v : V} {u : Value} {pos : Pos} (hg : Gl X x) (hm : X.mg x = none) (hv : bootBuiltins x = some u) (r : RelV v u) (hn : x ≠ "__name__" := by decide) (hd : (x == ("__debug__" : Str)) = false := by decide) : PE X (.Name x pos) (tC v) :=
  fun _ _ _ H _ I h => ld_blt I hg hm hv ⟨v, H, I, r, h⟩ hn hd

/-! ### arithmetic -/
/-- two ints -/
def t2I (ta tb : TE) (k : Int → Int → Hp → Prop) : St → Hp → Prop := fun σ H => ta σ H fun x H1 => tb σ H1 fun y H2 => ∃ i j, x = .int i ∧ y = .int j ∧ k i j H2
def tAdd (ta tb : TE) : TE := fun σ H Q => t2I ta tb (fun i j H2 => Q (.int (i + j)) H2) σ H
def tSub (ta tb : TE) : TE := fun σ H Q => t2I ta tb (fun i j H2 => Q (.int (i - j)) H2) σ H
/-- the left factor below 2^64 -/
def tMul (ta tb : TE) : TE := fun σ H Q => t2I ta tb (fun i j H2 => (-(2 ^ 64) < i ∧ i < 2 ^ 64) ∧ Q (.int (i * j)) H2) σ H
variable {a b : Expr} {ta tb : TE} {pos : Pos}
/-! ### comparisons -/
def PC (X : Cx) (op : CmpOp) (a b : Expr) (t : TE) : Prop :=
  ∀ (pins : List (Addr × Obj)) (s : Shared) (σ : St) (H : Hp) (Q : VK), Inv X pins σ H s → t σ H Q →
    wpAny (model X.prog X.w) X.A (eval a X.env) (fun v s₁ => wpAny (model X.prog X.w) X.A (eval b X.env) (fun u s₂ => wpAny (model X.prog X.w) X.A (compareOp op v u) (EP X pins σ Q) X.xe s₂) X.xe s₁) X.xe s
def tCmp (p : Int → Int → Bool) (ta tb : TE) : TE := fun σ H Q => t2I ta tb (fun i j H2 => Q (.bl (p i j)) H2) σ H
abbrev tLt : TE → TE → TE := tCmp fun i j => decide (i < j)
abbrev tLe : TE → TE → TE := tCmp fun i j => decide (i ≤ j)
abbrev tGt : TE → TE → TE := tCmp fun i j => decide (j < i)
abbrev tGe : TE → TE → TE := tCmp fun i j => decide (j ≤ i)
abbrev tEqI : TE → TE → TE := tCmp fun i j => decide (i = j)
abbrev tNeI : TE → TE → TE := tCmp fun i j => !decide (i = j)
/-- is None -/
def tIsN (ta : TE) : TE := fun σ H Q => ta σ H fun x H1 => Q (.bl (decide (x = .non))) H1
def tNotN (ta : TE) : TE := fun σ H Q => ta σ H fun x H1 => Q (.bl (!decide (x = .non))) H1
/-- a comparison as a value, as a test -/
def tB (t : TE) : TT := fun σ H Q => t σ H fun x H1 => ∃ c, x = .bl c ∧ Q c H1
/-! ### and, or, not -/
variable {tA tB' : TT} {rest : List Expr}
def tAnd (t u : TT) : TT := fun σ H Q => t σ H fun c H1 => if c = true then u σ H1 Q else Q false H1
def tOr (t u : TT) : TT := fun σ H Q => t σ H fun c H1 => if c = true then Q true H1 else u σ H1 Q
def tNot (t : TT) : TT := fun σ H Q => t σ H fun c H1 => Q (!c) H1
theorem pw_and1 (ha : PT X a tA) : PW X (.BoolOp .And [a] pos) tA := by
  intro wh pins s σ H Q I h
  refine isTrue_and (thn (ha pins s σ H Q I h) fun c s1 e => ?_)
  cases c with
  | true => exact isTrue_and_nil e
  | false => exact e
theorem pw_or1 (ha : PT X a tA) : PW X (.BoolOp .Or [a] pos) tA := by
  intro wh pins s σ H Q I h
  refine isTrue_or (thn (ha pins s σ H Q I h) fun c s1 e => ?_)
  cases c with
  | false => exact isTrue_or_nil e
  | true => exact e
theorem pw_and (ha : PT X a tA) (hb : PW X (.BoolOp .And (b :: rest) pos) tB') : PW X (.BoolOp .And (a :: b :: rest) pos) (tAnd tA tB') := by
  intro wh pins s σ H Q I h
  refine isTrue_and (thn (ha pins s σ H _ I h) fun c s1 ⟨H1, I1, q1⟩ => ?_)
  cases c with
  | true => exact hb wh pins s1 σ H1 Q I1 q1
  | false => exact ⟨H1, I1, q1⟩
theorem pw_or (ha : PT X a tA) (hb : PW X (.BoolOp .Or (b :: rest) pos) tB') : PW X (.BoolOp .Or (a :: b :: rest) pos) (tOr tA tB') := by
  intro wh pins s σ H Q I h
  refine isTrue_or (thn (ha pins s σ H _ I h) fun c s1 ⟨H1, I1, q1⟩ => ?_)
  cases c with
  | true => exact ⟨H1, I1, q1⟩
  | false => exact hb wh pins s1 σ H1 Q I1 q1
theorem pt_not (ha : PT X a tA) : PT X (.UnaryOp .Not a pos) (tNot tA) := by
  intro pins s σ H Q I h
  exact isTrue_not (ha pins s σ H (fun c H1 => Q (!c) H1) I h)
/-- .. as values (bools) -/
def tAndV (ta tb : TE) : TE := fun σ H Q => ta σ H fun x H1 => ∃ c, x = .bl c ∧ if c = true then tb σ H1 Q else Q (.bl false) H1
def tOrV (ta tb : TE) : TE := fun σ H Q => ta σ H fun x H1 => ∃ c, x = .bl c ∧ if c = true then Q (.bl true) H1 else tb σ H1 Q
def tNotV (ta : TE) : TE := fun σ H Q => ta σ H fun x H1 => ∃ c, x = .bl c ∧ Q (.bl (!c)) H1
theorem pe_one {op} {t : TE} (h : PE X a t) : PE X (.BoolOp op [a] pos) t := fun pins s σ H Q I hw => BoolOp_one (h pins s σ H Q I hw)
theorem pe_and (ha : PE X a ta) (hb : PE X (.BoolOp .And (b :: rest) pos) tb) : PE X (.BoolOp .And (a :: b :: rest) pos) (tAndV ta tb) := by
  intro pins s σ H Q I h
  refine BoolOp_and (thn (ha pins s σ H _ I h) fun v s1 ⟨x, H1, I1, r1, q1⟩ => ?_)
  obtain ⟨c, rfl, q1⟩ := q1
  cases r1
  refine wpAny_truthy_bool ?_
  cases c with
  | true => exact hb pins s1 σ H1 Q I1 q1
  | false => exact ⟨.bl false, H1, I1, rfl, q1⟩
theorem pe_not (ha : PE X a ta) : PE X (.UnaryOp .Not a pos) (tNotV ta) := by
  intro pins s σ H Q I h
  refine UnaryOp_ (thn (ha pins s σ H _ I h) fun v s1 ⟨x, H1, I1, r1, q1⟩ => ?_)
  obtain ⟨c, rfl, q1⟩ := q1
  cases r1
  exact not_of (wpAny_truthy_bool ⟨.bl (!c), H1, I1, rfl, q1⟩)
/-- a if t else b -/
def tIf (t : TT) (ta tb : TE) : TE := fun σ H Q => t σ H fun c H1 => if c = true then ta σ H1 Q else tb σ H1 Q
theorem pe_ifExp {c : Expr} (hc : PT X c tA) (ha : PE X a ta) (hb : PE X b tb) : PE X (.IfExp c a b pos) (tIf tA ta tb) := by
  intro pins s σ H Q I h
  refine wpAny_IfExp (thn (hc pins s σ H _ I h) fun d s1 ⟨H1, I1, q1⟩ => ?_)
  cases d with
  | true => exact ha pins s1 σ H1 Q I1 q1
  | false => exact hb pins s1 σ H1 Q I1 q1
end
end L2

namespace L2
open PySem PySem.Spec PyProof.Rows

/-! ### a list, a tuple that is read: tracked, frozen, or an object of the module -/
def SqL (K : PySem.W.Frag) (H : Hp) (a : Addr) (xs : List V) : Prop :=
  Rd H a (.lst xs) ∨
    ∃ (o : Obj) (its : Array Value) (n : Nat), K.lookup a = some o ∧ o.cls = .type "list" ∧ o.dict = none ∧ o.data = .seq its n ∧ its.size ≤ sizeLine ∧ Vals xs its.toList
def SqT (K : PySem.W.Frag) (H : Hp) (a : Addr) (xs : List V) : Prop :=
  Rd H a (.tup xs) ∨
    ∃ (o : Obj) (its : Array Value) (n : Nat), K.lookup a = some o ∧ o.cls = .type "tuple" ∧ o.data = .seq its n ∧ its.size ≤ sizeLine ∧ Vals xs its.toList
def absV : Value → Option V
  | .none => some .non
  | .bool b => some (.bl b)
  | .int i _ => some (.int i)
  | .str x _ => some (.str x)
  | .bytes b _ => some (.byt b)
  | .float b _ => some (.flt b)
  | .ref a => some (.ref a)
  | .type n => some (.ty n)
  | _ => none
theorem RelV.abs {x : V} {u : Value} (r : RelV x u) : absV u = some x := by
  cases x with
  | non => cases r; rfl
  | bl _ => cases r; rfl
  | int _ => obtain ⟨t, rfl⟩ := r; rfl
  | str _ => obtain ⟨t, rfl⟩ := r; rfl
  | byt _ => obtain ⟨t, rfl⟩ := r; rfl
  | flt _ => obtain ⟨t, rfl⟩ := r; rfl
  | ref _ => cases r; rfl
  | ty _ => cases r; rfl
theorem RelV.inj {x y : V} {u : Value} (r : RelV x u) (q : RelV y u) : x = y := Option.some.inj (r.abs.symm.trans q.abs)
theorem Vals.inj : ∀ {xs ys : List V} {us : List Value}, Vals xs us → Vals ys us → xs = ys
  | _, _, _, .nil, .nil => rfl
  | _, _, _, .cons r t, .cons r' t' => by rw [r.inj r', Vals.inj t t']
section
variable {X : Cx} {pins : List (Addr × Obj)} {σ : St} {H : Hp} {s : Shared} {a : Addr} {xs ys : List V}
theorem SqL.of {K : PySem.W.Frag} (h : H a = some (.lst xs)) : SqL K H a xs := .inl (.inl h)
theorem SqT.of {K : PySem.W.Frag} (h : H a = some (.tup xs)) : SqT K H a xs := .inl (.inl h)
theorem Inv.list (I : Inv X pins σ H s) (h : SqL X.K H a xs) : ∃ its : List Value, Vals xs its ∧ PlainL s.heap a its.toArray ∧ xs.length ≤ sizeLine := by
  rcases h with h | ⟨o, its, n, hk, hc, hd, hs, hz, r⟩
  · obtain ⟨z, its, n, r, e⟩ := h.ok I.hok
    exact ⟨its, r, ⟨_, n, e, rfl, rfl, rfl⟩, z⟩
  · refine ⟨its.toList, r, ⟨o, n, I.kIn a o hk, hc, hd, by simpa using hs⟩, ?_⟩
    have e := r.length
    simp only [Array.length_toList] at e
    omega
theorem Inv.tuple (I : Inv X pins σ H s) (h : SqT X.K H a xs) : ∃ its : List Value, Vals xs its ∧ IsTup s.heap a its.toArray ∧ xs.length ≤ sizeLine := by
  rcases h with h | ⟨o, its, n, hk, hc, hs, hz, r⟩
  · obtain ⟨z, its, r, p⟩ := h.ok I.hok
    exact ⟨its, r, p, z⟩
  · refine ⟨its.toList, r, ⟨o, I.kIn a o hk, hc, n, by simpa using hs⟩, ?_⟩
    have e := r.length
    simp only [Array.length_toList] at e
    omega
theorem Inv.list_inj (I : Inv X pins σ H s) (h : SqL X.K H a xs) (h' : SqL X.K H a ys) : xs = ys := by
  obtain ⟨its, r, ⟨o, n, e, _, _, d⟩, _⟩ := I.list h
  obtain ⟨its', r', ⟨o', n', e', _, _, d'⟩, _⟩ := I.list h'
  rw [e] at e'; cases e'
  rw [d] at d'
  injection d' with d1 _
  have : its = its' := by simpa using congrArg Array.toList d1
  subst this
  exact r.inj r'
end

/-! ### another wish about exceptions -/
abbrev Cx.wish (X : Cx) (E : Value → Shared → Prop) : Cx := { X with xe := E }
/-- no exception leaves -/
abbrev Cx.nox (X : Cx) : Cx := X.wish fun _ _ => False
theorem Cx.Ok.wish {X : Cx} (ok : X.Ok) (E : Value → Shared → Prop) : (X.wish E).Ok :=
  ⟨ok.mod, ok.kind, ok.glob, ok.blt, ok.above, ok.inj, ok.has, ok.cab, ok.hd, ok.frames, ok.stk, ok.exf, ok.bs, ok.bsz, ok.noex, ok.exfs, ok.funs, ok.frf⟩
theorem Cx.Ok.unwish {X : Cx} {E : Value → Shared → Prop} (ok : (X.wish E).Ok) : X.Ok :=
  ⟨ok.mod, ok.kind, ok.glob, ok.blt, ok.above, ok.inj, ok.has, ok.cab, ok.hd, ok.frames, ok.stk, ok.exf, ok.bs, ok.bsz, ok.noex, ok.exfs, ok.funs, ok.frf⟩
section
variable {X : Cx} {pins : List (Addr × Obj)} {σ : St} {H : Hp} {s : Shared} {E : Value → Shared → Prop}
theorem Inv.wish (I : Inv X pins σ H s) (E : Value → Shared → Prop) : Inv (X.wish E) pins σ H s := ⟨I.ok.wish E, I.os, I.bare, I.base, I.loc, I.cell, I.free, I.freeC, I.pin, I.hok, I.len⟩
theorem Inv.unwish (I : Inv (X.wish E) pins σ H s) : Inv X pins σ H s := ⟨I.ok.unwish, I.os, I.bare, I.base, I.loc, I.cell, I.free, I.freeC, I.pin, I.hok, I.len⟩
theorem SP.unwish {D : Ends} {f : Flow} {s' : Shared} (h : SP (X.wish E) pins D f s') : SP X pins D f s' := by
  cases f with
  | next => obtain ⟨σ', H', I, q⟩ := h; exact ⟨σ', H', I.unwish, q⟩
  | brk => obtain ⟨σ', H', I, q⟩ := h; exact ⟨σ', H', I.unwish, q⟩
  | cont => obtain ⟨σ', H', I, q⟩ := h; exact ⟨σ', H', I.unwish, q⟩
  | ret u => obtain ⟨v, σ', H', I, r, q⟩ := h; exact ⟨v, σ', H', I.unwish, r, q⟩
theorem PSs.nox {st : List Stmt} {t : TS} (h : PSs X.nox st t) : PSs X st t := fun pins s σ H D I hw =>
  wpAny_mono (h pins s σ H D (I.wish _) hw) (fun _ _ q => q.unwish) fun _ _ z => False.elim z
end

/-! ### blocks and small statements -/
section
variable {X : Cx} {st : Stmt} {rest : List Stmt} {t u : TS} {e : Expr} {te : TE} {pos : Pos}
def tNext : TS := fun D σ H => D.nx σ H
def tSeq (t u : TS) : TS := fun D σ H => t { D with nx := u D } σ H
theorem pss_nil : PSs X [] tNext := fun _ _ σ H _ I h => wpAny_execs_nil ⟨σ, H, I, h⟩
theorem pss_cons (h1 : PS X st t) (h2 : PSs X rest u) : PSs X (st :: rest) (tSeq t u) := by
  intro pins s σ H D I h
  refine wpAny_execs_cons (thn (h1 pins s σ H { D with nx := u D } I h) fun f s1 q => ?_)
  cases f with
  | next =>
    obtain ⟨σ', H', I', q⟩ := q
    exact h2 pins s1 σ' H' D I' q
  | ret v => exact q
  | brk => exact q
  | cont => exact q
theorem pss_one (h1 : PS X st t) : PSs X [st] t := by
  intro pins s σ H D I h
  refine wpAny_execs_cons (thn (h1 pins s σ H D I h) fun f s1 q => ?_)
  cases f with
  | next => exact wpAny_execs_nil q
  | ret v => exact q
  | brk => exact q
  | cont => exact q
def tBreak : TS := fun D σ H => D.bk σ H
def tCont : TS := fun D σ H => D.ct σ H
theorem ps_break : PS X (.Break pos) tBreak := fun _ _ σ H _ I h => wpAny_Break ⟨σ, H, I, h⟩
/-- in a def's body nothing is shown -/
theorem Inv.quiet {pins : List (Addr × Obj)} {σ : St} {H : Hp} {s : Shared} (I : Inv X pins σ H s) : interactive X.env = false := by simp [interactive, I.ok.kind]
/-- an expression whose value is dropped -/
def tDrop (te : TE) : TS := fun D σ H => te σ H fun _ H1 => D.nx σ H1
theorem ps_expr (he : PE X e te) (hs : swapsWith e none pos.line X.env = pure false := by rfl) : PS X (.Expr e pos) (tDrop te) := by
  intro pins s σ H D I h
  exact wpAny_Expr_any (thn (he pins s σ H _ I h) fun v s1 ⟨x, H1, I1, r1, q1⟩ => ⟨σ, H1, I1, q1⟩) I.quiet hs
def tRet (te : TE) : TS := fun D σ H => te σ H D.rt
theorem ps_ret (he : PE X e te) : PS X (.Return (some e) pos) (tRet te) := by
  intro pins s σ H D I h
  exact wpAny_Return_some (thn (he pins s σ H _ I h) fun v s1 ⟨x, H1, I1, r1, q1⟩ => ⟨x, σ, H1, I1, r1, q1⟩)
def tRetN : TS := fun D _ H => D.rt .non H
def tIfS (c : TT) (t u : TS) : TS := fun D σ H => c σ H fun b H1 => if b = true then t D σ H1 else u D σ H1
theorem ps_if {c : Expr} {a b : List Stmt} {tc : TT} (hc : PT X c tc) (ha : PSs X a t) (hb : PSs X b u) : PS X (.If c a b pos) (tIfS tc t u) := by
  intro pins s σ H D I h
  refine wpAny_If (thn (hc pins s σ H _ I h) fun d s1 ⟨H1, I1, q1⟩ => ?_)
  cases d with
  | true => exact ha pins s1 σ H1 D I1 q1
  | false => exact hb pins s1 σ H1 D I1 q1
/-- code that the proof never comes to -/
def tNever : TS := fun _ _ _ => False
theorem pss_never {sts : List Stmt} : PSs X sts tNever := fun _ _ _ _ _ _ h => h.elim
end

/-! ### targets -/
abbrev TG := V → St → Hp → (St → Hp → Prop) → Prop
abbrev TGs := List V → St → Hp → (St → Hp → Prop) → Prop
def PG (X : Cx) (target : Expr) (t : TG) : Prop :=
  ∀ (pins : List (Addr × Obj)) (s : Shared) (σ : St) (H : Hp) (v : V) (u : Value) (Q : St → Hp → Prop), Inv X pins σ H s → RelV v u → t v σ H Q →
    wpAny (model X.prog X.w) X.A (assign target X.env u) (fun _ s' => ∃ σ' H', Inv X pins σ' H' s' ∧ Q σ' H') X.xe s
/-- several targets, one after another -/
def PGs (X : Cx) (ts : List Expr) (t : TGs) : Prop :=
  ∀ (pins : List (Addr × Obj)) (s : Shared) (σ : St) (H : Hp) (vs : List V) (us : List Value) (Q : St → Hp → Prop), Inv X pins σ H s → Vals vs us → t vs σ H Q →
    wpAny (model X.prog X.w) X.A (assignInOrder ((assignEach ts X.env).map (·.2)) us) (fun _ s' => ∃ σ' H', Inv X pins σ' H' s' ∧ Q σ' H') X.xe s
/-- o[i] = v, by values -/
abbrev TSet := V → V → V → Hp → (Hp → Prop) → Prop
def PSet (X : Cx) (t : TSet) : Prop :=
  ∀ (pins : List (Addr × Obj)) (s : Shared) (σ : St) (H : Hp) (o i v : V) (ov iv u : Value) (Q : Hp → Prop), Inv X pins σ H s → RelV o ov → RelV i iv → RelV v u → t o i v H Q →
    wpAny (model X.prog X.w) X.A (setItem ov iv u) (fun _ s' => ∃ H', Inv X pins σ H' s' ∧ Q H') X.xe s
/-- a op= b, by values -/
abbrev TIp := V → V → Hp → VK → Prop
def PIp (X : Cx) (op : Operator) (t : TIp) : Prop :=
  ∀ (pins : List (Addr × Obj)) (s : Shared) (σ : St) (H : Hp) (x y : V) (v u : Value) (Q : VK), Inv X pins σ H s → RelV x v → RelV y u → t x y H Q →
    wpAny (model X.prog X.w) X.A (inplaceOp op v u) (EP X pins σ Q) X.xe s
section
variable {X : Cx} {pos : Pos}
def gName (i : Nat) : TG := fun v σ H Q => Q (σ.set i (some v)) H
theorem pg_name {i : Nat} {x : Str} (hN : X.N.Nodup) (hi : X.N[i]? = some x) (hx : Loc X.env.scope x) (hf : X.fn x = true ∨ X.env.scope.names.lookup x = some .local := by first | exact .inl rfl | exact .inr rfl | assumption) : PG X (.Name x pos) (gName i) := by
  intro pins s σ H v u Q I r h
  exact wpAny_assign_Name (store_ok I hN hi hx r (fun s' I' => ⟨_, H, I', h⟩) hf)
def gNil : TGs := fun vs σ H Q => vs = [] ∧ Q σ H
def gCons (t : TG) (u : TGs) : TGs := fun vs σ H Q => ∃ v r, vs = v :: r ∧ t v σ H fun σ' H' => u r σ' H' Q
theorem pgs_nil : PGs X [] gNil := by
  intro pins s σ H vs us Q I r h
  obtain ⟨e, h⟩ := h
  subst e
  cases r
  exact assignInOrder_nil ⟨σ, H, I, h⟩
theorem pgs_cons {e : Expr} {es : List Expr} {t : TG} {u : TGs} (h1 : PG X e t) (h2 : PGs X es u)
    (hs : (assignEach (e :: es) X.env).map (·.2) = assign e X.env :: (assignEach es X.env).map (·.2) := by rfl) : PGs X (e :: es) (gCons t u) := by
  intro pins s σ H vs us Q I r h
  obtain ⟨v, vr, e1, h⟩ := h
  subst e1
  cases r with
  | cons r rr =>
    rw [hs]
    refine assignInOrder_cons (thn (h1 pins s σ H _ _ _ I r h) fun _ s1 ⟨σ1, H1, I1, q1⟩ => ?_)
    exact h2 pins s1 σ1 H1 _ _ Q I1 rr q1
/-- (a, b, ..) = a tuple of that length -/
def gTup (K : PySem.W.Frag) (n : Nat) (t : TGs) : TG := fun v σ H Q => ∃ a xs, v = .ref a ∧ SqT K H a xs ∧ xs.length = n ∧ t xs σ H Q
theorem pg_tup {es : List Expr} {k : Nat} {t : TGs} {n : Nat} (hc : X.calm = true) (h : PGs X es t)
    (hn : (assignEach es X.env).length = n := by rfl) (hst : (assignEach es X.env).findIdx? (·.1) = none := by rfl) : PG X (.Tuple es k pos) (gTup X.K n t) := by
  intro pins s σ H v u Q I r hw
  obtain ⟨a, xs, e1, hq, hl, hw⟩ := hw
  subst e1
  cases r
  obtain ⟨its, rv, ht, hz⟩ := I.tuple hq
  refine assign_Tuple_tuple (I.ok.hd hc) ht (by simp [hn, ← hl, rv.length]) hst fun h' hx => ?_
  have I1 : Inv X pins σ H { s with heap := h' } := I.kept (t' := s.toks) fun b o e => hx b o (Nat.ne_of_lt (Heap.lt_size e)) e
  exact h pins _ σ H xs _ Q I1 (by simpa using rv) hw
/-- o[i] = .. -/
def gSub (to ti : TE) (t : TSet) : TG := fun v σ H Q => to σ H fun o H1 => ti σ H1 fun i H2 => t o i v H2 fun H3 => Q σ H3
/-- target = value -/
def tAsg (te : TE) (g : TG) : TS := fun D σ H => te σ H fun x H1 => g x σ H1 D.nx
theorem ps_asg {tg e : Expr} {te : TE} {g : TG} (he : PE X e te) (hg : PG X tg g) (hs : swapsWithSole [tg] e pos.line X.env = pure false := by rfl) (hw : swappedStores [tg] e X.env = pure none := by rfl)
    (h1 : (assignEach [tg] X.env).map (·.2) = [assign tg X.env] := by rfl) : PS X (.Assign [tg] e pos) (tAsg te g) := by
  intro pins s σ H D I h
  refine wpAny_Assign_stores (thn (he pins s σ H _ I h) fun v s1 ⟨x, H1, I1, r1, q1⟩ => ?_) hs hw
  rw [h1]
  exact thn (hg pins s1 σ H1 x v _ I1 r1 q1) fun _ s2 q => q
/-- name = value -/
theorem ps_set {i : Nat} {x : Str} {e : Expr} {te : TE} {pos' : Pos} (hN : X.N.Nodup) (hi : X.N[i]? = some x) (hx : Loc X.env.scope x) (he : PE X e te) (hs : swapsWith e (some (.Name x pos')) pos.line X.env = pure false := by rfl) (hf : X.fn x = true ∨ X.env.scope.names.lookup x = some .local := by first | exact .inl rfl | exact .inr rfl | assumption) :
    PS X (.Assign [.Name x pos'] e pos) (tAsg te (gName i)) := by
  intro pins s σ H D I h
  refine wpAny_Assign_Name (thn (he pins s σ H _ I h) fun v s1 ⟨y, H1, I1, r1, q1⟩ => ?_) hs
  exact store_ok I1 hN hi hx r1 (fun s2 I2 => ⟨_, H1, I2, q1⟩) hf
/-- a, b = x, y with plain local names: stored from the right; the pair itself is not tracked (the opening rows as in PyProof/Rows/TupAssign.lean:23) -/
def tPar (i j : Nat) (ta : TA) : TS := fun D σ H => ta σ H fun vs H1 => ∃ v w, vs = [v, w] ∧ D.nx ((σ.set i (some v)).set j (some w)) H1
/-- name op= e -/
def tAug (i : Nat) (te : TE) (ti : TIp) : TS := fun D σ H => ∃ x, σ[i]? = some (some x) ∧ te σ H fun y H1 => ti x y H1 fun z H2 => D.nx (σ.set i (some z)) H2
/-- o[i] op= e -/
def tAugS (to ti te : TE) (tget : V → V → Hp → VK → Prop) (tip : TIp) (tset : TSet) : TS := fun D σ H => to σ H fun o H1 => ti σ H1 fun i H2 => tget o i H2 fun x H3 => te σ H3 fun y H4 => tip x y H4 fun z H5 => tset o i z H5 fun H6 => D.nx σ H6
/-- o[i], by values -/
def PGet (X : Cx) (t : V → V → Hp → VK → Prop) : Prop :=
  ∀ (pins : List (Addr × Obj)) (s : Shared) (σ : St) (H : Hp) (o i : V) (ov iv : Value) (Q : VK), Inv X pins σ H s → RelV o ov → RelV i iv → t o i H Q →
    wpAny (model X.prog X.w) X.A (getItem ov iv) (EP X pins σ Q) X.xe s
/-- ints -/
def ipI (f : Int → Int → Int) : TIp := fun x y H Q => ∃ i j, x = .int i ∧ y = .int j ∧ Q (.int (f i j)) H
end

/-! ### while -/
section
variable {X : Cx} {pos : Pos}
/-- the invariant W with its measure -/
def tWhile (c : TT) (tb : TS) : TS := fun D σ H => ∃ W : Nat → St → Hp → Prop, (∃ m, W m σ H) ∧ ∀ m σ H, W m σ H →
  c σ H fun b H1 => if b = true then ∃ N : St → Hp → Prop, (∀ σ' H', N σ' H' → ∃ m', m' < m ∧ W m' σ' H') ∧ tb { D with nx := N, ct := N, bk := D.nx } σ H1 else D.nx σ H1
theorem ps_while {c : Expr} {body : List Stmt} {tc : TT} {tb : TS} (hp : PassesOwn (model X.prog X.w) X.A X.env X.xe) (hc : PT X c tc) (hb : PSs X body tb) : PS X (.While c body [] pos) (tWhile tc tb) := by
  intro pins s σ H D I h
  obtain ⟨W, ⟨m0, w0⟩, turn⟩ := h
  refine wpAny_While (codeAny_whileLoop (fun n s' => ∃ σ' H', Inv X pins σ' H' s' ∧ W n σ' H') ?_ m0 ⟨σ, H, I, w0⟩)
  rintro n s1 ⟨σ1, H1, I1, w1⟩
  refine wpAny_passesOwn hp (thn (hc pins s1 σ1 H1 _ I1 (turn n σ1 H1 w1)) fun b s2 ⟨H2, I2, q2⟩ => ?_)
  cases b with
  | true =>
    obtain ⟨N, hN, q2⟩ := q2
    rw [if_pos rfl]
    refine wpAny_passesOwn hp (thn (hb pins s2 σ1 H2 _ I2 q2) fun f s3 q3 => ?_)
    cases f with
    | next =>
      obtain ⟨σ3, H3, I3, n3⟩ := q3
      obtain ⟨m', hm, w3⟩ := hN σ3 H3 n3
      exact ⟨m', hm, σ3, H3, I3, w3⟩
    | cont =>
      obtain ⟨σ3, H3, I3, n3⟩ := q3
      obtain ⟨m', hm, w3⟩ := hN σ3 H3 n3
      exact ⟨m', hm, σ3, H3, I3, w3⟩
    | brk => exact q3
    | ret v => exact q3
  | false =>
    rw [if_neg Bool.false_ne_true]
    exact wpAny_execs_nil ⟨σ1, H2, I2, q2⟩
end

/-! ### what a loop or a comprehension walks -/
/-- at turn i: it yields x (the heap may grow), or it stops -/
structure It where
  go : Nat → Hp → Prop
  yld : Nat → Hp → V → Hp → Prop
  stop : Nat → Hp → Prop
/-- the iterator's own objects may turn: they are not the frame's, not pinned, younger than the entry (or a comprehension's own) -/
def FpOk (X : Cx) (pins : List (Addr × Obj)) (H : Hp) (b : Addr) : Prop :=
  H b = none ∧ b ≠ X.env.locals ∧ b ∉ X.fs ∧ (b ∈ X.ex ∨ X.s₀.heap.objs.size ≤ b) ∧ (∀ x c, X.env.cells.lookup x = some c → c ≠ b) ∧ ∀ p ∈ X.pn ++ pins, p.1 ≠ b
theorem Inv.fpOk {X : Cx} {pins : List (Addr × Obj)} {σ : St} {H H' : Hp} {s : Shared} {b : Addr} (I : Inv X pins σ H s) (hb : s.heap.objs.size ≤ b) (hn : H' b = none) : FpOk X pins H' b := by
  refine ⟨hn, Nat.ne_of_gt (Nat.lt_of_lt_of_le I.lt hb), I.nofs hb, .inr (Nat.le_trans I.sz hb), fun x c e z => ?_, fun p hp z => ?_⟩
  · obtain ⟨v, q⟩ := I.cell x c e
    exact absurd (Nat.lt_of_lt_of_le q.lt (by rw [z]; exact hb)) (Nat.lt_irrefl _)
  · exact absurd (Nat.lt_of_lt_of_le (Heap.lt_size (I.pin p hp).1) (by rw [z]; exact hb)) (Nat.lt_irrefl _)
structure Turn (P : Program) (w : World) (K : PySem.W.Frag) (tg : Expr) (J : It) (fp : List Addr) (it : Addr) (tn : Nat → Heap → Prop) : Prop where
  mem : it ∈ fp
  obj : ∀ i h, tn i h → ∀ b ∈ fp, ∃ o, h.get? b = some o ∧ ∀ v, o.data ≠ .cell v
  keep : ∀ i h h', tn i h → (∀ b ∈ fp, ∀ o, h.get? b = some o → h'.get? b = some o) → tn i h'
  item : ∀ (X : Cx), X.prog = P → X.w = w → X.K = K → X.calm = true → ∀ (i : Nat) (pins : List (Addr × Obj)) (s : Shared) (σ : St) (H : Hp) (E : Value → Shared → Prop), Inv X pins σ H s → (∀ b ∈ fp, FpOk X pins H b) → tn i s.heap → J.go i H →
    wpAny (model P w) X.A (pyNext (.ref it)) (fun r s1 => ∃ u, r = some u ∧
      wpAny (model P w) X.A (letOwnedTupleGo tg (.ref it) u) (fun _ s2 => ∃ x H', Inv X pins σ H' s2 ∧ RelV x u ∧ J.yld i H x H' ∧ tn (i + 1) s2.heap ∧ ∀ b ∈ fp, H' b = none) E s1) E s
  done : ∀ (X : Cx), X.prog = P → X.w = w → X.K = K → X.calm = true → ∀ (i : Nat) (pins : List (Addr × Obj)) (s : Shared) (σ : St) (H : Hp) (E : Value → Shared → Prop), Inv X pins σ H s → (∀ b ∈ fp, FpOk X pins H b) → tn i s.heap → J.stop i H →
    wpAny (model P w) X.A (pyNext (.ref it)) (fun r s1 => r = none ∧ Inv X pins σ H s1) E s
  self : ∀ (A : Around) (i : Nat) (s : Shared) (Q : Value → Shared → Prop) (E : Value → Shared → Prop), tn i s.heap → Q (.ref it) s → wpAny (model P w) A (pyIter (.ref it)) Q E s
abbrev TI := St → Hp → (It → Hp → Prop) → Prop
/-- an iterator has come -/
def PIE (X : Cx) (pins : List (Addr × Obj)) (σ : St) (tg : Expr) (R : It → Hp → Prop) (itv : Value) (s2 : Shared) : Prop :=
  ∃ (it : Addr) (fp : List Addr) (tn : Nat → Heap → Prop) (J : It) (H' : Hp), itv = .ref it ∧ Inv X pins σ H' s2 ∧ Turn X.prog X.w X.K tg J fp it tn ∧ tn 0 s2.heap ∧ (∀ b ∈ fp, FpOk X pins H' b) ∧ R J H'
def PI (X : Cx) (tg iter : Expr) (wi : TI) : Prop :=
  ∀ (pins : List (Addr × Obj)) (s : Shared) (σ : St) (H : Hp) (R : It → Hp → Prop), Inv X pins σ H s → wi σ H R →
    wpAny (model X.prog X.w) X.A (eval iter X.env) (fun v s1 => wpAny (model X.prog X.w) X.A (pyIter v) (PIE X pins σ tg R) X.xe s1) X.xe s

/-- the step ahead of the store is nothing for an iterator that keeps no tuple -/
theorem go_of {M : Model} {A : Around} {E : Value → Shared → Prop} {s : Shared} {tg : Expr} {it : Addr} {u : Value} {o : Obj} {n : String} {vs : Array Value} {Q : Unit → Shared → Prop} (ho : s.heap.get? it = some o) (hc : o.cls = .type n) (hd : o.data = .fields vs)
    (hn : ["enumerate", "zip", "dict_itemiterator", "dict_reverseitemiterator", "odict_iterator", "itertools.zip_longest", "itertools.pairwise"].contains n = false) (hQ : Q () s) : wpAny M A (letOwnedTupleGo tg (.ref it) u) Q E s := by
  unfold letOwnedTupleGo
  cases tg <;> first
    | exact wpAny_pure hQ
    | (cases u <;> first
        | exact wpAny_pure hQ
        | (refine wpAny_bind (wpAny_load ho ?_)
           rw [hc, hd]
           show wpAny M A (if (["enumerate", "zip", "dict_itemiterator", "dict_reverseitemiterator", "odict_iterator", "itertools.zip_longest", "itertools.pairwise"].contains n && vs[0]? == some (rawInt _)) = true then _ else _) Q E s
           rw [if_neg (by intro h; rw [hn, Bool.false_and] at h; cases h)]
           exact wpAny_pure hQ))

/-- the list at a, as it stands at each turn (a loop may append to it) -/
def Itl (K : PySem.W.Frag) (a : Addr) : It :=
  ⟨fun i H => ∃ xs x, SqL K H a xs ∧ xs[i]? = some x, fun i H x H' => H' = H ∧ ∀ xs, SqL K H a xs → xs[i]? = some x, fun i H => ∃ xs, SqL K H a xs ∧ xs.length ≤ i⟩
def Itt (K : PySem.W.Frag) (a : Addr) : It :=
  ⟨fun i H => ∃ xs x, SqT K H a xs ∧ xs[i]? = some x, fun i H x H' => H' = H ∧ ∀ xs, SqT K H a xs → xs[i]? = some x, fun i H => ∃ xs, SqT K H a xs ∧ xs.length ≤ i⟩
/-- lo, lo + 1, .. (n of them) -/
def Itr (lo : Int) (n : Nat) : It := ⟨fun i _ => i < n, fun i H x H' => H' = H ∧ x = .int (lo + i), fun i _ => n ≤ i⟩
theorem turn_list {P : Program} {w : World} {K : PySem.W.Frag} {tg : Expr} (a it : Addr) : Turn P w K tg (Itl K a) [it] it (fun i h => h.IsListIter it a i) where
  mem := by simp
  obj := fun i h st b hb => by
    have e : b = it := by simpa using hb
    subst e
    obtain ⟨o, e, c, d⟩ := st
    exact ⟨o, e, fun v z => by rw [d] at z; cases z⟩
  keep := fun i h h' st k => st.at fun o e => k it (by simp) o e
  item := by
    intro X hP hw hK hc i pins s σ H E I hf st hg
    subst hP hw hK
    obtain ⟨xs, x, hq, hx⟩ := hg
    obtain ⟨its, rv, p, hz⟩ := I.list hq
    obtain ⟨u, hu, ru⟩ := rv.get hx
    obtain ⟨f0, f1, f2, f3, f4, f5⟩ := hf it (by simp)
    refine wpAny_pyNext_list_item st p.isList (x := u) (by simpa using hu) fun h' st' sb => ?_
    have I1 : Inv X pins σ H { s with heap := h' } := I.turned (t' := s.toks) (fun b o hb e => (sb.2 b hb).trans e) f0 f1 f3 f4 f5
    obtain ⟨o, e, c, d⟩ := id st'
    exact ⟨u, rfl, go_of (s := { s with heap := h' }) e c d (by decide) ⟨x, H, I1, ru, ⟨rfl, fun ys hy => by rw [I.list_inj hy hq]; exact hx⟩, st', fun b hb => (hf b hb).1⟩⟩
  done := by
    intro X hP hw hK hc i pins s σ H E I hf st hg
    subst hP hw hK
    obtain ⟨xs, hq, hx⟩ := hg
    obtain ⟨its, rv, p, hz⟩ := I.list hq
    obtain ⟨f0, f1, f2, f3, f4, f5⟩ := hf it (by simp)
    have hl := rv.length
    exact wpAny_pyNext_list_end (I.ok.hd hc) st p.isList (by simp; omega) fun h' eb => ⟨rfl, I.turned (t' := s.toks) (fun b o hb e => eb b o hb e) f0 f1 f3 f4 f5⟩
  self := fun _ _ _ _ _ st h => wpAny_pyIter_listiter st h
theorem turn_range {P : Program} {w : World} {K : PySem.W.Frag} {tg : Expr} (it : Addr) (lo : Int) (n : Nat) : Turn P w K tg (Itr lo n) [it] it (fun i h => IsRangeIter h it (lo + (i : Nat) * 1) ((n : Int) - (i : Nat)) 1) where
  mem := by simp
  obj := fun i h st b hb => by
    have e : b = it := by simpa using hb
    subst e
    exact ⟨_, st, fun v z => by
      have z' : Data.fields _ = Data.cell v := z
      cases z'⟩
  keep := fun i h h' st k => k it (by simp) _ st
  item := by
    intro X hP hw hK hc i pins s σ H E I hf st hg
    subst hP hw hK
    obtain ⟨f0, f1, f2, f3, f4, f5⟩ := hf it (by simp)
    have W := Walks.range (prog := X.prog) (w := X.w) (I.ok.hd hc) it lo 1 n
    refine W.item i s _ _ hg st fun v h' tk hv st' kk => ?_
    obtain ⟨t, rfl⟩ := hv
    have I1 : Inv X pins σ H { s with heap := h', toks := tk } := I.turned (fun b o hb e => kk b o (by simpa using hb) e) f0 f1 f3 f4 f5
    refine ⟨_, rfl, go_of (s := { s with heap := h', toks := tk }) (n := "range_iterator") st' rfl rfl (by decide) ⟨.int (lo + i), H, I1, ⟨t, ?_⟩, ⟨rfl, rfl⟩, st', fun b hb => (hf b hb).1⟩⟩
    rw [Int.mul_one]
  done := by
    intro X hP hw hK hc i pins s σ H E I hf st hg
    subst hP hw hK
    obtain ⟨f0, f1, f2, f3, f4, f5⟩ := hf it (by simp)
    exact wpAny_pyNext_range_end (I.ok.hd hc) st (by have : n ≤ i := hg; omega) fun h' eb => ⟨rfl, I.turned (t' := s.toks) (fun b o hb e => eb b o hb e) f0 f1 f3 f4 f5⟩
  self := fun _ _ _ _ _ st h => wpAny_pyIter_rangeiter st h
end L2

namespace L2
open PySem PySem.Spec PyProof.Rows
section
variable {X : Cx} {tg : Expr}
def iList (K : PySem.W.Frag) (tl : TE) : TI := fun σ H R => tl σ H fun x H1 => ∃ a, x = .ref a ∧ (∃ xs, SqL K H1 a xs) ∧ R (Itl K a) H1
def iTup (K : PySem.W.Frag) (tl : TE) : TI := fun σ H R => tl σ H fun x H1 => ∃ a, x = .ref a ∧ (∃ xs, SqT K H1 a xs) ∧ R (Itt K a) H1
theorem pi_list {l : Expr} {tl : TE} (hl : PE X l tl) : PI X tg l (iList X.K tl) := by
  intro pins s σ H R I h
  refine thn (hl pins s σ H _ I h) fun v s1 ⟨x, H1, I1, r1, q1⟩ => ?_
  obtain ⟨a, e, ⟨xs, hq⟩, q⟩ := q1
  subst e
  cases r1
  obtain ⟨its, rv, p, hz⟩ := I1.list hq
  refine wpAny_pyIter_list p.isList ?_
  refine ⟨s1.heap.objs.size, [s1.heap.objs.size], _, _, H1, rfl, I1.kept (t' := s1.toks) fun b o e => Heap.get?_push_of_some _ e, turn_list a _, ⟨_, Heap.get?_push_size _ rfl, rfl, rfl⟩, fun b hb => ?_, q⟩
  have e : b = s1.heap.objs.size := by simpa using hb
  subst e
  exact I1.fpOk (Nat.le_refl _) (I1.hok.fresh (Nat.le_refl _))
/-- a range object just made, walked -/
theorem range_it {pins : List (Addr × Obj)} {σ : St} {H : Hp} {s : Shared} {R : It → Hp → Prop} {E : Value → Shared → Prop} {lo hi : Int} {t u v : Tok} {tk : Nat} (I : Inv X pins σ H s) (h1 : -(2 ^ 62) ≤ lo) (h2 : lo < 2 ^ 62) (h3 : -(2 ^ 62) ≤ hi) (h4 : hi < 2 ^ 62)
    (q : R (Itr lo (hi - lo).toNat) H) : wpAny (model X.prog X.w) X.A (pyIter (.ref s.heap.objs.size)) (PIE X pins σ tg R) E { s with heap := s.heap.push { cls := .type "range", data := .fields #[.int lo t, .int hi u, .int 1 v] }, toks := tk } := by
  refine wpAny_pyIter_range (IsRange.new ..) (small_one h1 h2 h3 h4) ?_
  have I1 : Inv X pins σ H { s with heap := s.heap.push { cls := .type "range", data := .fields #[.int lo t, .int hi u, .int 1 v] }, toks := tk } := I.kept fun b o e => Heap.get?_push_of_some _ e
  refine ⟨(s.heap.push { cls := .type "range", data := .fields #[.int lo t, .int hi u, .int 1 v] }).objs.size, [(s.heap.push { cls := .type "range", data := .fields #[.int lo t, .int hi u, .int 1 v] }).objs.size], _, _, H, rfl,
    I1.kept (t' := tk) fun b o e => Heap.get?_push_of_some _ e, turn_range _ lo (hi - lo).toNat, ?_, fun b hb => ?_, q⟩
  · have e1 : lo + ((0 : Nat) : Int) * 1 = lo := by simp
    have e2 : (((hi - lo).toNat : Nat) : Int) - ((0 : Nat) : Int) = Builtin.Range.rangeSize lo hi 1 := by rw [rangeSize_one]; split <;> omega
    show IsRangeIter _ _ (lo + ((0 : Nat) : Int) * 1) ((((hi - lo).toNat : Nat) : Int) - ((0 : Nat) : Int)) 1
    rw [e1, e2]
    exact Heap.get?_push_size _ rfl
  · have e : b = (s.heap.push { cls := .type "range", data := .fields #[.int lo t, .int hi u, .int 1 v] }).objs.size := by simpa using hb
    subst e
    exact I1.fpOk (Nat.le_refl _) (I1.hok.fresh (Nat.le_refl _))
def iRng1 (ta : TA) : TI := fun σ H R => ta σ H fun vs H1 => ∃ j : Int, vs = [.int j] ∧ -(2 ^ 62) ≤ j ∧ j < 2 ^ 62 ∧ R (Itr 0 j.toNat) H1
def iRng2 (ta : TA) : TI := fun σ H R => ta σ H fun vs H1 => ∃ i j : Int, vs = [.int i, .int j] ∧ (-(2 ^ 62) ≤ i ∧ i < 2 ^ 62 ∧ -(2 ^ 62) ≤ j ∧ j < 2 ^ 62) ∧ R (Itr i (j - i).toNat) H1
theorem pi_range1 {a : Expr} {ta : TA} {p pos : Pos} (hg : Gl X "range") (hm : X.mg "range" = none) (ha : PA X [a] ta) (hs : starEach [a] X.env = [(false, eval a X.env)] := by rfl) : PI X tg (.Call (.Name "range" p) [a] [] pos) (iRng1 ta) := by
  intro pins s σ H R I h
  refine Call_ (ld_blt I hg hm boot_range (PyProof.Rows.callWith_type1 (thn (ha pos pins s σ H _ I h) fun us s1 ⟨vs, H1, I1, r1, q1⟩ => ?_) hs rfl))
  obtain ⟨j, e, q1, q2, q⟩ := q1
  subst e
  cases r1 with
  | cons r rr =>
    cases rr
    obtain ⟨t, rfl⟩ := r
    exact call_range_1 (range_it I1 (by omega) (by omega) q1 q2 (by simpa using q))
theorem pi_range2 {a b : Expr} {ta : TA} {p pos : Pos} (hg : Gl X "range") (hm : X.mg "range" = none) (ha : PA X [a, b] ta) (hs : starEach [a, b] X.env = [(false, eval a X.env), (false, eval b X.env)] := by rfl) (hs2 : starEach [b] X.env = [(false, eval b X.env)] := by rfl) :
    PI X tg (.Call (.Name "range" p) [a, b] [] pos) (iRng2 ta) := by
  intro pins s σ H R I h
  refine Call_ (ld_blt I hg hm boot_range (PyProof.Rows.callWith_type1 (thn (ha pos pins s σ H _ I h) fun us s1 ⟨vs, H1, I1, r1, q1⟩ => ?_) (by rw [hs, hs2]) (by rw [hs2]; rfl)))
  obtain ⟨i, j, e, ⟨q1, q2, q3, q4⟩, q⟩ := q1
  subst e
  cases r1 with
  | cons r rr =>
    cases rr with
    | cons r' rr =>
      cases rr
      obtain ⟨t, rfl⟩ := r
      obtain ⟨t', rfl⟩ := r'
      exact call_range_2 (range_it I1 q1 q2 q3 q4 q)

/-! ### for -/
/-- W: the invariant by the turn and a measure; N: what the body is to reach -/
def tFor (wi : TI) (g : TG) (tb : TS) : TS := fun D σ H => wi σ H fun J H1 => ∃ W : Nat → Nat → St → Hp → Prop, (∃ m, W 0 m σ H1) ∧ ∀ i m σ H, W i m σ H →
  (J.stop i H ∧ D.nx σ H) ∨ (J.go i H ∧ ∃ N : St → Hp → Prop, (∀ σ' H', N σ' H' → ∃ m', m' < m ∧ W (i + 1) m' σ' H') ∧ ∀ x H', J.yld i H x H' → g x σ H' fun σ2 H2 => tb { D with nx := N, ct := N, bk := D.nx } σ2 H2)
/-- the records at fp as they stand -/
def pinsAt (fp : List Addr) (h : Heap) : List (Addr × Obj) := fp.filterMap fun b => (h.get? b).map fun o => (b, o)
theorem mem_pinsAt {fp : List Addr} {h : Heap} {b : Addr} {o : Obj} (hb : b ∈ fp) (e : h.get? b = some o) : (b, o) ∈ pinsAt fp h := List.mem_filterMap.mpr ⟨b, hb, by rw [e]; rfl⟩
theorem of_pinsAt {fp : List Addr} {h : Heap} {p : Addr × Obj} (hp : p ∈ pinsAt fp h) : p.1 ∈ fp ∧ h.get? p.1 = some p.2 := by
  obtain ⟨b, hb, e⟩ := List.mem_filterMap.mp hp
  cases q : h.get? b with
  | none => rw [q] at e; cases e
  | some o =>
    rw [q] at e
    have e' : (b, o) = p := Option.some.inj e
    subst e'
    exact ⟨hb, q⟩
theorem Inv.pinned {pins : List (Addr × Obj)} {σ : St} {H : Hp} {s : Shared} {fp : List Addr} (I : Inv X pins σ H s) (hf : ∀ b ∈ fp, FpOk X pins H b) (ho : ∀ b ∈ fp, ∃ o, s.heap.get? b = some o ∧ ∀ v, o.data ≠ .cell v) : Inv X (pins ++ pinsAt fp s.heap) σ H s :=
  I.pins_of fun p hp => (List.mem_append.mp hp).elim (fun z => I.pin p (List.mem_append_right _ z)) fun z => by
    obtain ⟨hb, e⟩ := of_pinsAt z
    obtain ⟨f0, f1, f2, _⟩ := hf p.1 hb
    obtain ⟨o, e', d⟩ := ho p.1 hb
    rw [e] at e'; cases e'
    exact ⟨e, f0, f1, f2, d⟩
theorem Inv.unpinned {pins pl : List (Addr × Obj)} {σ : St} {H : Hp} {s : Shared} (I : Inv X (pins ++ pl) σ H s) : Inv X pins σ H s := I.pins_of fun p hp => I.pin p (List.mem_append_right _ (List.mem_append_left _ hp))
theorem ps_for {iter : Expr} {body : List Stmt} {wi : TI} {g : TG} {tb : TS} {pos : Pos} (hp : PassesOwn (model X.prog X.w) X.A X.env X.xe) (hc : X.calm = true) (hi : PI X tg iter wi) (hg : PG X tg g) (hb : PSs X body tb)
    (hs : ∀ x, foldedSetIterable iter X.env x = pure x := by intro _; rfl) : PS X (.For tg iter body [] pos) (tFor wi g tb) := by
  intro pins s σ H D I h
  refine wpAny_For (thn (hi pins s σ H _ I h) fun v s1 h1 => thn h1 fun itv s2 h2 => ?_) hs
  obtain ⟨it, fp, tn, J, H2, e, I2, T, st2, f2, W, ⟨m0, w0⟩, turn⟩ := h2
  subst e
  -- what stays true of the iterator's objects through the loop
  have stat : ∀ {H' : Hp}, (∀ b ∈ fp, H' b = none) → ∀ b ∈ fp, FpOk X pins H' b := fun hn b hb => ⟨hn b hb, (f2 b hb).2⟩
  refine codeAny_forLoop_any (fun n s' => ∃ i σ' H', Inv X pins σ' H' s' ∧ tn i s'.heap ∧ (∀ b ∈ fp, H' b = none) ∧ W i n σ' H') ?_ m0 ⟨0, σ, H2, I2, st2, fun b hb => (f2 b hb).1, w0⟩
  rintro n s3 ⟨i, σ3, H3, I3, st3, fr3, w3⟩
  rcases turn i n σ3 H3 w3 with ⟨stop, qn⟩ | ⟨go, N, hN, step⟩
  · refine wpAny_passesOwn hp (thn (T.done X rfl rfl rfl hc i pins s3 σ3 H3 X.xe I3 (stat fr3) st3 stop) fun r s4 ⟨hr, I4⟩ => ?_)
    subst hr
    exact wpAny_execs_nil ⟨σ3, H3, I4, qn⟩
  · refine wpAny_passesOwn hp (thn (T.item X rfl rfl rfl hc i pins s3 σ3 H3 X.xe I3 (stat fr3) st3 go) fun r s4 ⟨u, hr, h4⟩ => ?_)
    subst hr
    refine wpAny_passesOwn hp (thn h4 fun _ s5 ⟨x, H5, I5, r5, y5, st5, fr5⟩ => ?_)
    have I5' := I5.pinned (stat fr5) (T.obj _ _ st5)
    refine wpAny_passesOwn hp (thn (hg _ s5 σ3 H5 x u _ I5' r5 (step x H5 y5)) fun _ s6 ⟨σ6, H6, I6, q6⟩ => ?_)
    refine wpAny_passesOwn hp (thn (hb _ s6 σ6 H6 _ I6 q6) fun f s7 q7 => ?_)
    have again : ∀ {σ7 : St} {H7 : Hp}, Inv X (pins ++ pinsAt fp s5.heap) σ7 H7 s7 → N σ7 H7 → ∃ m, m < n ∧ ∃ i σ' H', Inv X pins σ' H' s7 ∧ tn i s7.heap ∧ (∀ b ∈ fp, H' b = none) ∧ W i m σ' H' := fun {σ7 H7} I7 n7 => by
      obtain ⟨m', hm, w7⟩ := hN σ7 H7 n7
      refine ⟨m', hm, i + 1, σ7, H7, I7.unpinned, T.keep _ _ _ st5 fun b hb o e => (I7.pin (b, o) (List.mem_append_right _ (List.mem_append_right _ (mem_pinsAt hb e)))).1, fun b hb => ?_, w7⟩
      obtain ⟨o, e, d⟩ := T.obj _ _ st5 b hb
      exact (I7.pin (b, o) (List.mem_append_right _ (List.mem_append_right _ (mem_pinsAt hb e)))).2.1
    cases f with
    | next => obtain ⟨σ7, H7, I7, n7⟩ := q7; exact again I7 n7
    | cont => obtain ⟨σ7, H7, I7, n7⟩ := q7; exact again I7 n7
    | brk => obtain ⟨σ7, H7, I7, q7⟩ := q7; exact ⟨σ7, H7, I7.unpinned, q7⟩
    | ret v => obtain ⟨x7, σ7, H7, I7, r7, q7⟩ := q7; exact ⟨x7, σ7, H7, I7.unpinned, r7, q7⟩
end

/-! ### the forms one uses -/
/-- over a list that the body leaves as it is -/
theorem for_list {K : PySem.W.Frag} {a : Addr} {xs : List V} {g : TG} {tb : TS} {D : Ends} {σ : St} {H : Hp} (Pv : Nat → St → Hp → Prop) (h0 : Pv 0 σ H) (hl : ∀ i σ H, i ≤ xs.length → Pv i σ H → SqL K H a xs)
    (hs : ∀ i x σ H, xs[i]? = some x → Pv i σ H → g x σ H fun σ2 H2 => tb { D with nx := Pv (i + 1), ct := Pv (i + 1), bk := D.nx } σ2 H2) (hd : ∀ σ H, Pv xs.length σ H → D.nx σ H) :
    ∃ W : Nat → Nat → St → Hp → Prop, (∃ m, W 0 m σ H) ∧ ∀ i m σ H, W i m σ H →
      ((Itl K a).stop i H ∧ D.nx σ H) ∨ ((Itl K a).go i H ∧ ∃ N : St → Hp → Prop, (∀ σ' H', N σ' H' → ∃ m', m' < m ∧ W (i + 1) m' σ' H') ∧ ∀ x H', (Itl K a).yld i H x H' → g x σ H' fun σ2 H2 => tb { D with nx := N, ct := N, bk := D.nx } σ2 H2) := by
  refine ⟨fun i m σ H => m = xs.length - i ∧ i ≤ xs.length ∧ Pv i σ H, ⟨xs.length, by simp, Nat.zero_le _, h0⟩, ?_⟩
  rintro i m σ H ⟨rfl, hi, p⟩
  have q := hl i σ H hi p
  by_cases hlt : i < xs.length
  · refine .inr ⟨⟨xs, xs[i], q, by simp [hlt]⟩, Pv (i + 1), fun σ' H' p' => ⟨xs.length - (i + 1), by omega, rfl, hlt, p'⟩, fun x H' y => ?_⟩
    obtain ⟨e, y⟩ := y
    subst e
    exact hs i x σ _ (y xs q) p
  · have e : i = xs.length := by omega
    subst e
    exact .inl ⟨⟨xs, q, Nat.le_refl _⟩, hd σ H p⟩
theorem for_range {lo : Int} {n : Nat} {g : TG} {tb : TS} {D : Ends} {σ : St} {H : Hp} (Pv : Nat → St → Hp → Prop) (h0 : Pv 0 σ H)
    (hs : ∀ i σ H, i < n → Pv i σ H → g (.int (lo + i)) σ H fun σ2 H2 => tb { D with nx := Pv (i + 1), ct := Pv (i + 1), bk := D.nx } σ2 H2) (hd : ∀ σ H, Pv n σ H → D.nx σ H) :
    ∃ W : Nat → Nat → St → Hp → Prop, (∃ m, W 0 m σ H) ∧ ∀ i m σ H, W i m σ H →
      ((Itr lo n).stop i H ∧ D.nx σ H) ∨ ((Itr lo n).go i H ∧ ∃ N : St → Hp → Prop, (∀ σ' H', N σ' H' → ∃ m', m' < m ∧ W (i + 1) m' σ' H') ∧ ∀ x H', (Itr lo n).yld i H x H' → g x σ H' fun σ2 H2 => tb { D with nx := N, ct := N, bk := D.nx } σ2 H2) := by
  refine ⟨fun i m σ H => m = n - i ∧ i ≤ n ∧ Pv i σ H, ⟨n, by simp, Nat.zero_le _, h0⟩, ?_⟩
  rintro i m σ H ⟨rfl, hi, p⟩
  by_cases hlt : i < n
  · refine .inr ⟨hlt, Pv (i + 1), fun σ' H' p' => ⟨n - (i + 1), by omega, rfl, hlt, p'⟩, fun x H' y => ?_⟩
    obtain ⟨e, y⟩ := y
    subst e y
    exact hs i σ _ hlt p
  · have e : i = n := by omega
    subst e
    exact .inl ⟨Nat.le_refl _, hd σ H p⟩
end L2

namespace L2
open PySem PySem.Spec PyProof.Rows

abbrev R2 := V → V → Hp → VK → Prop
/-- a two-place operation on values: f is binaryOp op, inplaceOp op or compareOp op -/
def OpR (X : Cx) (f : Value → Value → Sem Value) (r : R2) : Prop :=
  ∀ (pins : List (Addr × Obj)) (s : Shared) (σ : St) (H : Hp) (x y : V) (v u : Value) (Q : VK), Inv X pins σ H s → RelV x v → RelV y u → r x y H Q →
    wpAny (model X.prog X.w) X.A (f v u) (EP X pins σ Q) X.xe s
/-- a one-place operation -/
def UnR (X : Cx) (f : Value → Sem Value) (r : V → Hp → VK → Prop) : Prop :=
  ∀ (pins : List (Addr × Obj)) (s : Shared) (σ : St) (H : Hp) (x : V) (v : Value) (Q : VK), Inv X pins σ H s → RelV x v → r x H Q →
    wpAny (model X.prog X.w) X.A (f v) (EP X pins σ Q) X.xe s
/-- a call of a value that is known (a builtin, a type) with values -/
def CallR (X : Cx) (f : Value) (r : List V → Hp → VK → Prop) : Prop :=
  ∀ (pins : List (Addr × Obj)) (s : Shared) (σ : St) (H : Hp) (xs : List V) (us : List Value) (Q : VK), Inv X pins σ H s → Vals xs us → r xs H Q →
    wpAny (model X.prog X.w) X.A (call f us) (EP X pins σ Q) X.xe s
/-- a value's truth -/
def TruR (X : Cx) (r : V → Hp → (Bool → Hp → Prop) → Prop) : Prop :=
  ∀ (pins : List (Addr × Obj)) (s : Shared) (σ : St) (H : Hp) (x : V) (v : Value) (Q : Bool → Hp → Prop), Inv X pins σ H s → RelV x v → r x H Q →
    wpAny (model X.prog X.w) X.A (truthy v) (TP X pins σ Q) X.xe s

def tOp (r : R2) (ta tb : TE) : TE := fun σ H Q => ta σ H fun x H1 => tb σ H1 fun y H2 => r x y H2 Q
def tUn (r : V → Hp → VK → Prop) (ta : TE) : TE := fun σ H Q => ta σ H fun x H1 => r x H1 Q
/-- ints in, under C, and a value out -/
def rI (C : Int → Int → Prop) (g : Int → Int → V) : R2 := fun x y H Q => ∃ i j, x = .int i ∧ y = .int j ∧ C i j ∧ Q (g i j) H
def rI0 (g : Int → Int → V) : R2 := fun x y H Q => ∃ i j, x = .int i ∧ y = .int j ∧ Q (g i j) H
def rU (g : Int → V) : V → Hp → VK → Prop := fun x H Q => ∃ i, x = .int i ∧ Q (g i) H

section
variable {X : Cx} {a b c : Expr} {ta tb tc : TE} {pos : Pos}

theorem binT (ha : PE X a ta) (hb : PE X b tb) {pins : List (Addr × Obj)} {s : Shared} {σ : St} {H : Hp} {R : V → V → Hp → Prop} (I : Inv X pins σ H s)
    (h : ta σ H fun x H1 => tb σ H1 fun y H2 => R x y H2) {Q : Value → Shared → Prop} {f : Value → Value → Sem Value}
    (hf : ∀ v u s2 x y H2, Inv X pins σ H2 s2 → RelV x v → RelV y u → R x y H2 → wpAny (model X.prog X.w) X.A (f v u) Q X.xe s2) :
    wpAny (model X.prog X.w) X.A (eval a X.env) (fun v s₁ => wpAny (model X.prog X.w) X.A (eval b X.env) (fun u s₂ => wpAny (model X.prog X.w) X.A (f v u) Q X.xe s₂) X.xe s₁) X.xe s := by
  refine thn (ha pins s σ H _ I h) fun v s1 ⟨x, H1, I1, r1, q1⟩ => ?_
  refine thn (hb pins s1 σ H1 _ I1 q1) fun u s2 ⟨y, H2, I2, r2, q2⟩ => ?_
  exact hf v u s2 x y H2 I2 r1 r2 q2

theorem pe_op {op : Operator} {r : R2} (ho : OpR X (binaryOp op) r) (ha : PE X a ta) (hb : PE X b tb) : PE X (.BinOp a op b pos) (tOp r ta tb) := by
  intro pins s σ H Q I h
  exact wpAny_BinOp (binT ha hb I h fun v u s2 x y H2 I2 rx ry q => ho pins s2 σ H2 x y v u Q I2 rx ry q)
theorem pe_un {op : UnaryOp} {r : V → Hp → VK → Prop} (ho : UnR X (unaryOp op) r) (ha : PE X a ta) : PE X (.UnaryOp op a pos) (tUn r ta) := by
  intro pins s σ H Q I h
  exact UnaryOp_ (thn (ha pins s σ H _ I h) fun v s1 ⟨x, H1, I1, r1, q1⟩ => ho pins s1 σ H1 x v Q I1 r1 q1)
/-! ### ints -/
theorem opI {f : Value → Value → Sem Value} {C : Int → Int → Prop} {g : Int → Int → Int}
    (rule : ∀ (i j : Int) (t u : Tok) (s : Shared) (Q : Value → Shared → Prop) (E : Value → Shared → Prop), C i j → Q (.int (g i j) s.toks) { s with toks := s.toks + 1 } → wpAny (model X.prog X.w) X.A (f (.int i t) (.int j u)) Q E s) :
    OpR X f (rI C fun i j => .int (g i j)) := by
  intro pins s σ H x y v u Q I rx ry h
  obtain ⟨i, j, rfl, rfl, hc, q⟩ := h
  obtain ⟨t, rfl⟩ := rx
  obtain ⟨t', rfl⟩ := ry
  exact rule i j t t' s _ _ hc ⟨.int (g i j), H, I.tok _, ⟨_, rfl⟩, q⟩
theorem opI0 {f : Value → Value → Sem Value} {g : Int → Int → Int}
    (rule : ∀ (i j : Int) (t u : Tok) (s : Shared) (Q : Value → Shared → Prop) (E : Value → Shared → Prop), Q (.int (g i j) s.toks) { s with toks := s.toks + 1 } → wpAny (model X.prog X.w) X.A (f (.int i t) (.int j u)) Q E s) :
    OpR X f (rI0 fun i j => .int (g i j)) := by
  intro pins s σ H x y v u Q I rx ry h
  obtain ⟨i, j, rfl, rfl, q⟩ := h
  obtain ⟨t, rfl⟩ := rx
  obtain ⟨t', rfl⟩ := ry
  exact rule i j t t' s _ _ ⟨.int (g i j), H, I.tok _, ⟨_, rfl⟩, q⟩
theorem opB0 {f : Value → Value → Sem Value} {g : Int → Int → Bool}
    (rule : ∀ (i j : Int) (t u : Tok) (s : Shared) (Q : Value → Shared → Prop) (E : Value → Shared → Prop), Q (.bool (g i j)) s → wpAny (model X.prog X.w) X.A (f (.int i t) (.int j u)) Q E s) :
    OpR X f (rI0 fun i j => .bl (g i j)) := by
  intro pins s σ H x y v u Q I rx ry h
  obtain ⟨i, j, rfl, rfl, q⟩ := h
  obtain ⟨t, rfl⟩ := rx
  obtain ⟨t', rfl⟩ := ry
  exact rule i j t t' s _ _ ⟨.bl (g i j), H, I, rfl, q⟩

def CDiv (i j : Int) : Prop := 0 < j ∧ j < 1073741824
def CDivN (i j : Int) : Prop := j ≠ 0 ∧ j.natAbs < 1073741824
def CPow (i j : Int) : Prop := 0 ≤ j ∧ j ≤ 1000000 ∧ i.natAbs < 2 ^ 64
def CMul (i j : Int) : Prop := (-(2 ^ 64) < i ∧ i < 2 ^ 64) ∨ (-(2 ^ 64) < j ∧ j < 2 ^ 64)
theorem CMul.ok {i j : Int} (h : CMul i j) : IntMulOk i j := by
  rcases h with ⟨h1, h2⟩ | ⟨h1, h2⟩
  · exact .of_left (intBits_le_64 h1 h2)
  · exact .of_right (intBits_le_64 h1 h2)
theorem op_add : OpR X (binaryOp .Add) (rI0 fun i j => .int (i + j)) := opI0 fun _ _ _ _ _ _ _ q => add_int q
theorem op_sub : OpR X (binaryOp .Sub) (rI0 fun i j => .int (i - j)) := opI0 fun _ _ _ _ _ _ _ q => sub_int q
theorem op_mul : OpR X (binaryOp .Mult) (rI CMul fun i j => .int (i * j)) := opI fun _ _ _ _ _ _ _ hc q => mul_int q hc.ok
/-- // by a positive divisor -/
theorem op_fdiv : OpR X (binaryOp .FloorDiv) (rI CDiv fun i j => .int (i / j)) := opI fun i j _ _ _ _ _ hc q => by
  have h1 : (0 : Int) < j := hc.1
  have h2 : j < 1073741824 := hc.2
  exact floordiv_int (by omega) (by rw [Int.fdiv_eq_ediv_of_nonneg i (by omega)]; exact q) (.inl (PyProof.noPylong_small (by omega)))
/-- % by a positive divisor of any size -/
theorem op_mod : OpR X (binaryOp .Mod) (rI (fun _ j => 0 < j) fun i j => .int (i % j)) := opI fun i j _ _ _ _ _ hc q => by
  have h1 : (0 : Int) < j := hc
  exact mod_int' (by omega) (by rw [Int.fmod_eq_emod_of_nonneg i (by omega)]; exact q)
theorem op_pow : OpR X (binaryOp .Pow) (rI CPow fun i j => .int (i ^ j.toNat)) := opI fun _ _ _ _ _ _ _ hc q => pow_int_small hc.1 hc.2.1 hc.2.2 q
theorem unI {f : Value → Sem Value} {g : Int → Int}
    (rule : ∀ (i : Int) (t : Tok) (s : Shared) (Q : Value → Shared → Prop) (E : Value → Shared → Prop), Q (.int (g i) s.toks) { s with toks := s.toks + 1 } → wpAny (model X.prog X.w) X.A (f (.int i t)) Q E s) :
    UnR X f (rU fun i => .int (g i)) := by
  intro pins s σ H x v Q I rx h
  obtain ⟨i, rfl, q⟩ := h
  obtain ⟨t, rfl⟩ := rx
  exact rule i t s _ _ ⟨.int (g i), H, I.tok _, ⟨_, rfl⟩, q⟩
theorem un_neg : UnR X (unaryOp .USub) (rU fun i => .int (-i)) := unI fun _ _ _ _ _ q => neg_int q
/-! ### bools among ints: n += (a < b) -/
end

/-! ### comparisons -/
/-- the scalars that == tells apart as data does -/
def scal : V → V → Bool
  | .non, .non => true | .non, .int _ => true | .int _, .non => true | .non, .bl _ => true | .bl _, .non => true | .non, .str _ => true | .str _, .non => true
  | .int _, .int _ => true | .bl _, .bl _ => true | .str _, .str _ => true | .byt _, .byt _ => true
  | .int _, .str _ => true | .str _, .int _ => true | .bl _, .str _ => true | .str _, .bl _ => true
  | _, _ => false
def rEq : R2 := fun x y H Q => scal x y = true ∧ Q (.bl (decide (x = y))) H
def rNe : R2 := fun x y H Q => scal x y = true ∧ Q (.bl (!decide (x = y))) H

section
variable {X : Cx} {a b c : Expr} {ta tb tc : TE} {pos : Pos}
theorem op_lt : OpR X (compareOp .Lt) (rI0 fun i j => .bl (decide (i < j))) := opB0 fun _ _ _ _ _ _ _ q => lt_int q
theorem op_le : OpR X (compareOp .LtE) (rI0 fun i j => .bl (decide (i ≤ j))) := opB0 fun _ _ _ _ _ _ _ q => le_int q
theorem op_gt : OpR X (compareOp .Gt) (rI0 fun i j => .bl (decide (j < i))) := opB0 fun _ _ _ _ _ _ _ q => gt_int q
theorem op_ge : OpR X (compareOp .GtE) (rI0 fun i j => .bl (decide (j ≤ i))) := opB0 fun _ _ _ _ _ _ _ q => ge_int q
/-- is, is not of two objects that are tracked lists or instances -/
def isObj : HO → Bool
  | .lst _ => true
  | .ins _ _ _ => true
  | _ => false
/-- two rules for one operation: by cases -/
theorem OpR.or {f : Value → Value → Sem Value} {r r' : R2} (h : OpR X f r) (h' : OpR X f r') : OpR X f (fun x y H Q => r x y H Q ∨ r' x y H Q) := by
  intro pins s σ H x y v u Q I rx ry q
  rcases q with q | q
  · exact h pins s σ H x y v u Q I rx ry q
  · exact h' pins s σ H x y v u Q I rx ry q

theorem nomark (b : Expr) {op : CmpOp} (h : op ≠ .In := by decide) (h2 : op ≠ .NotIn := by decide) : behindInMarks op b = false := by
  have e1 : (op == CmpOp.In) = false := by cases op <;> first | rfl | exact absurd rfl h
  have e2 : (op == CmpOp.NotIn) = false := by cases op <;> first | rfl | exact absurd rfl h2
  cases b <;> simp [behindInMarks, e1, e2]
/-- a comparison as a value; hm: nomark b, or (for in, not in) by with_unfolding_all rfl -/
theorem pe_cmpR {op : CmpOp} {r : R2} (ho : OpR X (compareOp op) r) (ha : PE X a ta) (hb : PE X b tb) (hm : behindInMarks op b = false) : PE X (.Compare a [op] [b] pos) (tOp r ta tb) := by
  intro pins s σ H Q I h
  exact wpAny_Compare1 (binT ha hb I h fun v u s2 x y H2 I2 rx ry q => ho pins s2 σ H2 x y v u Q I2 rx ry q) hm
/-- a reading of a value as a test -/
def tTest (t : TE) : TT := fun σ H Q => t σ H fun x H' => ∃ k, x = .bl k ∧ Q k H'
theorem pt_cmpR {op : CmpOp} {r : R2} (ho : OpR X (compareOp op) r) (ha : PE X a ta) (hb : PE X b tb) (hm : behindInMarks op b = false) : PT X (.Compare a [op] [b] pos) (tTest (tOp r ta tb)) := by
  intro pins s σ H Q I h
  refine wpAny_isTrue_Compare1 (thn (ha pins s σ H _ I h) fun v s1 ⟨x, H1, I1, r1, q1⟩ => thn (hb pins s1 σ H1 _ I1 q1) fun u s2 ⟨y, H2, I2, r2, q2⟩ =>
    thn (ho pins s2 σ H2 x y v u _ I2 r1 r2 q2) fun c s3 ⟨z, H3, I3, r3, k, e, q3⟩ => ?_) hm
  subst e
  cases r3
  exact wpAny_truthy_bool ⟨H3, I3, q3⟩
/-- a op1 b op2 c -/
def tChain (r r' : R2) (ta tb tc : TE) : TE := fun σ H Q => ta σ H fun x H1 => tb σ H1 fun y H2 => r x y H2 fun z H3 => ∃ k, z = .bl k ∧
  (if k = true then tc σ H3 fun w' H4 => r' y w' H4 Q else Q (.bl false) H3)
/-! ### truth -/
/-- a value's truth by the abstract heap -/
def TruV (K : PySem.W.Frag) (x : V) (H : Hp) (k : Bool) : Prop :=
  match x with
  | .non => k = false
  | .bl b => k = b
  | .int i => k = (i != 0)
  | .str y => y.length ≤ sizeLine ∧ k = ((y.length : Int) != 0)
  | .byt y => y.size ≤ sizeLine ∧ k = ((y.size : Int) != 0)
  | .ref p => (∃ xs, SqL K H p xs ∧ k = !xs.isEmpty) ∨ (∃ xs, SqT K H p xs ∧ k = !xs.isEmpty) ∨ ∃ kvs, H p = some (.dK kvs) ∧ k = !kvs.isEmpty
  | _ => False
theorem isEmpty_kv {κ : Type} {kvs : List (κ × V)} {vs : List (κ × Value)} (r : KV kvs vs) : (!vs.isEmpty) = !kvs.isEmpty := by
  cases r <;> rfl
theorem isEmpty_of {xs : List V} {its : List Value} (r : Vals xs its) : (!its.toArray.isEmpty) = !xs.isEmpty := by
  cases r <;> simp
theorem line63 : (sizeLine : Nat) < 2 ^ 63 := by rw [sizeLine_eq]; decide
theorem tru_ok : TruR X (fun x H Q => ∃ k, TruV X.K x H k ∧ Q k H) := by
  intro pins s σ H x v Q I rx h
  obtain ⟨k, e, q⟩ := h
  have hl := line63
  have hs : sizeLine = 16777216 := sizeLine_eq
  cases x with
  | non =>
    cases rx
    have e' : k = false := e
    subst e'
    exact truthy_none ⟨H, I, q⟩
  | bl b =>
    cases rx
    have e' : k = b := e
    subst e'
    exact wpAny_truthy_bool ⟨H, I, q⟩
  | int i =>
    obtain ⟨t, rfl⟩ := rx
    have e' : k = (i != 0) := e
    subst e'
    exact PySem.P.truthy_int ⟨H, I, q⟩
  | str y =>
    obtain ⟨t, rfl⟩ := rx
    obtain ⟨hy, e'⟩ : y.length ≤ sizeLine ∧ k = ((y.length : Int) != 0) := e
    subst e'
    exact PySem.P.truthy_str (by omega) ⟨H, I.tok _, q⟩
  | byt y =>
    obtain ⟨t, rfl⟩ := rx
    obtain ⟨hy, e'⟩ : y.size ≤ sizeLine ∧ k = ((y.size : Int) != 0) := e
    subst e'
    exact PySem.W.truthy_bytes (by omega) ⟨H, I.tok _, q⟩
  | ref p =>
    cases rx
    have e' : (∃ xs, SqL X.K H p xs ∧ k = !xs.isEmpty) ∨ (∃ xs, SqT X.K H p xs ∧ k = !xs.isEmpty) ∨ ∃ kvs, H p = some (.dK kvs) ∧ k = !kvs.isEmpty := e
    rcases e' with ⟨xs, hx, e'⟩ | ⟨xs, hx, e'⟩ | ⟨kvs, hx, e'⟩
    · subst e'
      obtain ⟨its, r, pl, hz⟩ := I.list hx
      have hlen := r.length
      exact wpAny_truthy_list pl.isList (by simp only [List.size_toArray]; omega) ⟨H, I.tok _, by rw [isEmpty_of r]; exact q⟩
    · subst e'
      obtain ⟨its, r, pl, hz⟩ := I.tuple hx
      have hlen := r.length
      exact truthy_tuple pl (by simp only [List.size_toArray]; omega) ⟨H, I.tok _, by rw [isEmpty_of r]; exact q⟩
    · subst e'
      obtain ⟨hz, hS, vs, r, m⟩ : kvs.length ≤ sizeLine ∧ (p == sysModules) = false ∧ ∃ vs, KV kvs vs ∧ s.heap.DictOf (mixKind X.prog X.w) p vs := I.hok p _ hx
      have hlen : kvs.length = vs.length := Paired.length r
      exact wpAny_truthy_dict hS m (by omega) ⟨H, I.tok _, by rw [isEmpty_kv r]; exact q⟩
  | _ => exact (show False from e).elim
/-- any expression whose test is its value's truth (a name, a call, a subscript, a field ..: he by fun _ => rfl) -/
theorem pt_truth (ha : PE X a ta) (he : ∀ whole, isTrue a X.env whole = (do let v ← whole; standAt a.pos; holding [v] (truthy v))) :
    PT X a (fun σ H Q => ta σ H fun x H' => ∃ k, TruV X.K x H' k ∧ Q k H') := by
  intro pins s σ H Q I h
  exact isTrue_plain (thn (ha pins s σ H _ I h) fun v s1 ⟨x, H1, I1, r1, q1⟩ => tru_ok pins s1 σ H1 x v Q I1 r1 q1) (he _)

/-! ### strs and bytes -/
def PlainIxT (b : Expr) : Prop := ∀ o i, subscripted b false o i = operate [o, i] (getItem o i)
/-! ### scalar builtins, by CallR -/
theorem vals1 {x : V} {us : List Value} (r : Vals [x] us) : ∃ u, us = [u] ∧ RelV x u := by
  cases r with
  | cons r1 r2 => cases r2; exact ⟨_, rfl, r1⟩
theorem vals2 {x y : V} {us : List Value} (r : Vals [x, y] us) : ∃ u w', us = [u, w'] ∧ RelV x u ∧ RelV y w' := by
  cases r with
  | cons r1 r2 =>
    cases r2 with
    | cons r3 r4 => cases r4; exact ⟨_, _, rfl, r1, r3⟩
theorem call_abs : CallR X (.builtin "abs") (fun xs H Q => ∃ i, xs = [.int i] ∧ Q (.int (if i < 0 then -i else i)) H) := by
  intro pins s σ H xs us Q I r h
  obtain ⟨i, rfl, q⟩ := h
  obtain ⟨u, rfl, t, rfl⟩ := vals1 r
  exact call_abs_int fun u tk => ⟨.int (if i < 0 then -i else i), H, I.tok _, ⟨_, rfl⟩, q⟩
theorem call_max2 (hc : X.calm = true) : CallR X (.builtin "max") (fun xs H Q => ∃ i j, xs = [.int i, .int j] ∧ Q (.int (if j > i then j else i)) H) := by
  intro pins s σ H xs us Q I r h
  obtain ⟨i, j, rfl, q⟩ := h
  obtain ⟨u, w', rfl, ⟨t, rfl⟩, ⟨t', rfl⟩⟩ := vals2 r
  refine max_two_ints (I.ok.hd hc) fun h' tk k => ⟨_, H, I.kept k, ?_, q⟩
  by_cases hj : j > i
  · rw [if_pos hj, if_pos hj]; exact ⟨_, rfl⟩
  · rw [if_neg hj, if_neg hj]; exact ⟨_, rfl⟩
theorem call_min2 (hc : X.calm = true) : CallR X (.builtin "min") (fun xs H Q => ∃ i j, xs = [.int i, .int j] ∧ Q (.int (if j < i then j else i)) H) := by
  intro pins s σ H xs us Q I r h
  obtain ⟨i, j, rfl, q⟩ := h
  obtain ⟨u, w', rfl, ⟨t, rfl⟩, ⟨t', rfl⟩⟩ := vals2 r
  refine min_two_ints (I.ok.hd hc) fun h' tk k => ⟨_, H, I.kept k, ?_, q⟩
  by_cases hj : j < i
  · rw [if_pos hj, if_pos hj]; exact ⟨_, rfl⟩
  · rw [if_neg hj, if_neg hj]; exact ⟨_, rfl⟩
theorem call_int1 : CallR X (.type "int") (fun xs H Q => (∃ i, xs = [.int i] ∧ Q (.int i) H) ∨ ∃ k, xs = [.bl k] ∧ Q (.int (if k then 1 else 0)) H) := by
  intro pins s σ H xs us Q I r h
  rcases h with ⟨i, rfl, q⟩ | ⟨k, rfl, q⟩
  · obtain ⟨u, rfl, t, rfl⟩ := vals1 r
    exact call_int_int ⟨.int i, H, I, ⟨_, rfl⟩, q⟩
  · obtain ⟨u, rfl, r1⟩ := vals1 r
    cases r1
    exact call_int_bool ⟨.int (if k then 1 else 0), H, I.tok _, ⟨_, rfl⟩, q⟩
/-- len of a str, a bytes, a list, a tuple -/
def LenV (K : PySem.W.Frag) (x : V) (H : Hp) (n : Nat) : Prop :=
  match x with
  | .str y => y.length ≤ sizeLine ∧ n = y.length
  | .byt y => y.size ≤ sizeLine ∧ n = y.size
  | .ref p => (∃ xs, SqL K H p xs ∧ n = xs.length) ∨ ∃ xs, SqT K H p xs ∧ n = xs.length
  | _ => False
theorem call_len : CallR X (.builtin "len") (fun xs H Q => ∃ x n, xs = [x] ∧ LenV X.K x H n ∧ Q (.int n) H) := by
  intro pins s σ H xs us Q I r h
  obtain ⟨x, n, rfl, e, q⟩ := h
  obtain ⟨u, rfl, rx⟩ := vals1 r
  have hl := line63
  have hs : sizeLine = 16777216 := sizeLine_eq
  cases x with
  | str y =>
    obtain ⟨t, rfl⟩ := rx
    obtain ⟨hy, e'⟩ : y.length ≤ sizeLine ∧ n = y.length := e
    subst e'
    exact len_str (by omega) ⟨.int _, H, I.tok _, ⟨_, rfl⟩, q⟩
  | byt y =>
    obtain ⟨t, rfl⟩ := rx
    obtain ⟨hy, e'⟩ : y.size ≤ sizeLine ∧ n = y.size := e
    subst e'
    exact PySem.W.len_bytes (by omega) ⟨.int _, H, I.tok _, ⟨_, rfl⟩, q⟩
  | ref p =>
    cases rx
    have e' : (∃ xs, SqL X.K H p xs ∧ n = xs.length) ∨ ∃ xs, SqT X.K H p xs ∧ n = xs.length := e
    rcases e' with ⟨xs, hx, e'⟩ | ⟨xs, hx, e'⟩
    · subst e'
      obtain ⟨its, r', pl, hz⟩ := I.list hx
      have hlen := r'.length
      exact Calls.call_len_list pl.isList (by simp only [List.size_toArray]; omega) ⟨.int xs.length, H, I.tok _, ⟨_, by simp only [List.size_toArray]; rw [hlen]⟩, q⟩
    · subst e'
      obtain ⟨its, r', pl, hz⟩ := I.tuple hx
      have hlen := r'.length
      exact len_tuple pl (by simp only [List.size_toArray]; omega) ⟨.int xs.length, H, I.tok _, ⟨_, by simp only [List.size_toArray]; rw [hlen]⟩, q⟩
  | _ => exact (show False from e).elim
end
end L2

namespace L2
open PySem PySem.Spec PyProof.Rows

/-! ### an instance, its attributes a map -/
structure ObjM (h : Heap) (x dx C : Addr) (mA : Str → Option Value) : Prop where
  obj : h.get? x = some (PySem.W.instObj C dx)
  ns : h.Ns1 dx mA
  ne : dx ≠ x

theorem lookIn_ns {h : Heap} {dx : Addr} {mA : Str → Option Value} (n : h.Ns1 dx mA) : ∃ od, h.get? dx = some od ∧ ∀ name, PySem.W.lookIn name od = some (mA name) := by
  obtain ⟨o, es, ep, ho, hd, hk, _, hm⟩ := n
  refine ⟨o, ho, fun name => ?_⟩
  have e := hm name
  unfold nsFind findBy at e
  rw [← Array.find?_toList] at e
  unfold PySem.W.lookIn
  rw [hd]
  dsimp only
  split
  · rename_i y q
    rw [q] at e
    exact congrArg some e
  · rename_i q
    rw [q] at e
    have a : es.toList.any (·.refKey) = false := by
      rw [List.any_eq_false]
      intro y hy
      obtain ⟨z, t, hkey⟩ := hk y (Array.mem_toList_iff.mp hy)
      simp [DictEntry.refKey, hkey]
    have a' : ¬ es.toList.any (·.refKey) = true := by rw [a]; exact Bool.false_ne_true
    rw [if_neg a']
    exact congrArg some e

theorem ObjM.look {h : Heap} {x dx C : Addr} {mA : Str → Option Value} (I : ObjM h x dx C mA) : ∃ od, PySem.W.InstAt h x (PySem.W.instObj C dx) C (some od) ∧ ∀ name, PySem.W.lookIn name od = some (mA name) :=
  let ⟨od, ho, hl⟩ := lookIn_ns I.ns
  ⟨od, ⟨I.obj, rfl, rfl, ho⟩, hl⟩

section
variable {prog : Program} {w : World} {A : Around} {E : Value → Shared → Prop} {s : Shared} {K : PySem.W.Frag} {x dx C f : Addr} {mA : Str → Option Value} {name : Str} {v : Value}

end

/-! ### the attributes as a list of pairs -/
def putF (f : Str) (v : V) : List (Str × V) → List (Str × V)
  | [] => [(f, v)]
  | (g, x) :: r => if g = f then (g, v) :: r else (g, x) :: putF f v r
section
variable {P : Program} {w : World} {H H' : Hp} {h h' : Heap} {a C dx : Addr} {fs fs' : List (Str × V)}
theorem ins_get (hok : HOk P w H h) (e : H a = some (.ins C dx fs)) : ∃ mA, ObjM h a dx C mA ∧ (∀ f, RelO (fs.lookup f) (mA f)) ∧ PySem.Within mA (fs.map (·.1)) ∧ fs.length ≤ 1000 ∧ H dx = some (.own a) := by
  obtain ⟨d, z, ne, ob, mA, n, r, q⟩ := (show ObjOk P w H h a (.ins C dx fs) from hok a _ e)
  exact ⟨mA, ⟨ob, n, ne⟩, r, q, z, d⟩
end

/-! ### what of the text a class must have -/
structure Cls (K : PySem.W.Frag) (C : Addr) : Prop where
  pg : PySem.W.plainGet K C Str.empty = true
  hd : PySem.W.hasDictIn K C = true
  po : PySem.W.plainOver K C = true
  sa : PySem.W.findIn K (.ref C) "__setattr__" = some (some (.builtin "object.__setattr__"))
theorem Cls.get {K : PySem.W.Frag} {C : Addr} (c : Cls K C) (f : Str) : PySem.W.plainGet K C f = true := c.pg
/-- no class of it has the name -/
def NoAttr (K : PySem.W.Frag) (C : Addr) (f : Str) : Prop := PySem.W.findIn K (.ref C) f = some none
/-- a constant of the class -/
structure Con (K : PySem.W.Frag) (C : Addr) (f : Str) (v : V) (u : Value) : Prop where
  at_ : PySem.W.findIn K (.ref C) f = some (some u)
  rel : RelV v u
  get : PySem.W.specialIn K u "__get__" = some none
  cp : PySem.W.copiedNames.contains f = false
/-- a method: a plain def of the class or of one above it -/
structure Meth (K : PySem.W.Frag) (C : Addr) (m : Str) (f : Addr) : Prop where
  at_ : PySem.W.findIn K (.ref C) m = some (some (.ref f))
  fn : PySem.W.isFn K (.ref f) = true
  kp : PySem.W.keepIn K (.ref f) = true

section
variable {X : Cx} {pins : List (Addr × Obj)} {σ : St} {H : Hp} {s : Shared} {a C dx : Addr} {fs : List (Str × V)} {f : Str} {v : V} {A : Around} {E : Value → Shared → Prop}

end

/-! ### readings and rules -/
/-- e.f, an attribute of the instance -/
def tFld (K : PySem.W.Frag) (ta : TE) (f : Str) : TE := fun σ H Q => ta σ H fun x H1 => ∃ a C dx fs v, x = .ref a ∧ H1 a = some (.ins C dx fs) ∧ Cls K C ∧ NoAttr K C f ∧ fs.lookup f = some v ∧ Q v H1
/-- e.f, a constant of the class -/
def tCon (K : PySem.W.Frag) (ta : TE) (f : Str) : TE := fun σ H Q => ta σ H fun x H1 => ∃ a C dx fs v u, x = .ref a ∧ H1 a = some (.ins C dx fs) ∧ Cls K C ∧ Con K C f v u ∧ fs.lookup f = none ∧ Q v H1
/-- e.f = value -/
def sFld (K : PySem.W.Frag) (ta tv : TE) (f : Str) : TS := fun D σ H => tv σ H fun y H1 => ta σ H1 fun x H2 => ∃ a C dx fs, x = .ref a ∧ H2 a = some (.ins C dx fs) ∧ Cls K C ∧ NoAttr K C f ∧ fs.length < 1000 ∧
  D.nx σ (upd H2 a (.ins C dx (putF f y fs)))
/-- an augmented operator on two values -/
def InOp (X : Cx) (op : Operator) (rd : V → V → Hp → VK → Prop) : Prop :=
  ∀ (pins : List (Addr × Obj)) (s : Shared) (σ : St) (H : Hp) (x y : V) (u v : Value) (Q : VK), Inv X pins σ H s → RelV x u → RelV y v → rd x y H Q → wpAny (model X.prog X.w) X.A (inplaceOp op u v) (EP X pins σ Q) X.xe s
/-- e.f op= value -/
def sFldAug (K : PySem.W.Frag) (ta tv : TE) (rd : V → V → Hp → VK → Prop) (f : Str) : TS := fun D σ H => ta σ H fun x H1 => ∃ a C dx fs v, x = .ref a ∧ H1 a = some (.ins C dx fs) ∧ Cls K C ∧ NoAttr K C f ∧ fs.lookup f = some v ∧
  tv σ H1 fun y H2 => rd v y H2 fun z H3 => ∃ dx' fs', H3 a = some (.ins C dx' fs') ∧ fs'.length < 1000 ∧ D.nx σ (upd H3 a (.ins C dx' (putF f z fs')))

section
variable {X : Cx} {o e value : Expr} {f : Str} {pos pos' tpos : Pos} {ta tv : TE}
def rAdd : V → V → Hp → VK → Prop := fun x y H Q => ∃ i j, x = .int i ∧ y = .int j ∧ Q (.int (i + j)) H
def rSub : V → V → Hp → VK → Prop := fun x y H Q => ∃ i j, x = .int i ∧ y = .int j ∧ Q (.int (i - j)) H
end

/-! ### isinstance -/
section
variable {X : Cx} {pins : List (Addr × Obj)} {σ : St} {H : Hp} {s : Shared} {A : Around} {E : Value → Shared → Prop} {Q : Value → Shared → Prop} {c : Value} {b : Bool}
/-- the type of a value, as the fragment's deciders take it; for an instance its class -/
inductive TyOf (K : PySem.W.Frag) (H : Hp) : V → Value → Prop where
  | non : TyOf K H .non (.type "NoneType")
  | bl (x : Bool) : TyOf K H (.bl x) (.type "bool")
  | int (i : Int) : TyOf K H (.int i) (.type "int")
  | str (x : Str) : TyOf K H (.str x) (.type "str")
  | flt (x : UInt64) : TyOf K H (.flt x) (.type "float")
  | lst {a : Addr} {xs : List V} (e : H a = some (.lst xs)) : TyOf K H (.ref a) (.type "list")
  | frz {a : Addr} {o : Obj} {xs : List V} (e : H a = some (.frz o (.lst xs))) : TyOf K H (.ref a) (.type "list")
  | tup {a : Addr} {xs : List V} (e : H a = some (.tup xs)) : TyOf K H (.ref a) (.type "tuple")
  | dK {a : Addr} {kvs : List (Key × V)} (e : H a = some (.dK kvs)) : TyOf K H (.ref a) (.type "dict")
  | dT {a : Addr} {kvs : List (List Key × V)} (e : H a = some (.dT kvs)) : TyOf K H (.ref a) (.type "dict")
  | ins {a C dx : Addr} {fs : List (Str × V)} (e : H a = some (.ins C dx fs)) (cl : Cls K C) (ha : PySem.W.findIn K (.ref C) "__class__" = some (some (.builtin "object.__class__")))
      (hn : PySem.W.specialIn K (.builtin "object.__class__") "__get__" = some (some (.builtin "getset_descriptor.__get__"))) (htk : PySem.W.takesIn K (.builtin "object.__class__") = some true)
      (hm : PySem.W.mroIn K C (.type "object") = some true) : TyOf K H (.ref a) (.ref C)
/-- isinstance(x, c) for one class c, a built-in or an own one: kitOne's answer -/
theorem isinst_ok {x : V} {u t : Value} (I : Inv X pins σ H s) (rx : RelV x u) (ty : TyOf X.K H x t) (e : PySem.W.kitOne X.K t c = some b) (h : ∀ tk, Q (.bool b) { s with toks := tk }) :
    wpAny (model X.prog X.w) A (call (.builtin "isinstance") [u, c]) Q E s := by
  cases ty with
  | non => cases (show u = Value.none from rx); exact PySem.W.kia_one PySem.W.kitx_none I.kIn True.intro e (fun z => nomatch z) h
  | bl y => cases (show u = Value.bool y from rx); exact PySem.W.kia_one PySem.W.kitx_bool I.kIn True.intro e (fun z => nomatch z) h
  | int i => obtain ⟨t, q⟩ := (show ∃ t, u = Value.int i t from rx); cases q; exact PySem.W.kia_one PySem.W.kitx_int I.kIn True.intro e (fun z => nomatch z) h
  | str y => obtain ⟨t, q⟩ := (show ∃ t, u = Value.str y t from rx); cases q; exact PySem.W.kia_one PySem.W.kitx_str I.kIn True.intro e (fun z => nomatch z) h
  | flt y => obtain ⟨t, q⟩ := (show ∃ t, u = Value.float y t from rx); cases q; exact PySem.W.kia_one PySem.W.kitx_float I.kIn True.intro e (fun z => nomatch z) h
  | @lst a xs ea =>
    cases (show u = Value.ref a from rx)
    obtain ⟨_, _, n, _, h1⟩ := (show ObjOk X.prog X.w H s.heap a (.lst xs) from I.hok a _ ea)
    exact PySem.W.kia_one PySem.W.kitx_list I.kIn ⟨_, h1, rfl⟩ e (fun z => nomatch z) h
  | @frz a ob xs ea =>
    cases (show u = Value.ref a from rx)
    obtain ⟨_, _, _, n, _, h1⟩ := (show ObjOk X.prog X.w H s.heap a (.frz ob (.lst xs)) from I.hok a _ ea)
    exact PySem.W.kia_one PySem.W.kitx_list I.kIn ⟨_, h1, rfl⟩ e (fun z => nomatch z) h
  | @tup a xs ea =>
    cases (show u = Value.ref a from rx)
    obtain ⟨_, _, _, p⟩ := (show ObjOk X.prog X.w H s.heap a (.tup xs) from I.hok a _ ea)
    obtain ⟨o, h1, h2, _⟩ := p
    exact PySem.W.kia_one PySem.W.kitx_tuple I.kIn ⟨o, h1, h2⟩ e (fun z => nomatch z) h
  | @dK a kvs ea =>
    cases (show u = Value.ref a from rx)
    obtain ⟨_, _, vs, _, p⟩ := (show ObjOk X.prog X.w H s.heap a (.dK kvs) from I.hok a _ ea)
    obtain ⟨o, es, ep, h1, h2, _⟩ := p
    exact PySem.W.kia_one PySem.W.kitx_dict I.kIn ⟨o, h1, h2.1⟩ e (fun z => nomatch z) h
  | @dT a kvs ea =>
    cases (show u = Value.ref a from rx)
    obtain ⟨_, _, xs, _, o, es, ep, h1, h2, _⟩ := (show ObjOk X.prog X.w H s.heap a (.dT kvs) from I.hok a _ ea)
    exact PySem.W.kia_one PySem.W.kitx_dict I.kIn ⟨o, h1, h2.1⟩ e (fun z => nomatch z) h
  | @ins a C dx fs ea cl ha hn htk hm =>
    cases (show u = Value.ref a from rx)
    obtain ⟨mA, O, _⟩ := ins_get I.hok ea
    obtain ⟨od, J, _⟩ := O.look
    exact PySem.W.kia_one (PySem.W.kitx_own (cl.get _) cl.hd ha hn htk hm) I.kIn J e (fun z => nomatch z) h
end
end L2

namespace L2
open PySem PySem.Spec PyProof.Rows

/-! ### room -/
structure Room (k : Nat) (A : Around) : Prop where
  hd : A.handled = none
  dp : A.depth + 3 * k + 5 < recursionLimit
  un : A.units + 16 * k + 200 < cLine
theorem Room.mono {j k : Nat} {A : Around} (r : Room k A) (h : j ≤ k) : Room j A := ⟨r.hd, by have := r.dp; omega, by have := r.un; omega⟩
theorem Room.deeper {k : Nat} {A : Around} (r : Room (k + 1) A) (env : Env) : Room k (A.deeper env) :=
  ⟨r.hd, by have := r.dp; show A.depth + 1 + 3 * k + 5 < _; omega, by have := r.un; show A.units + 3 + 16 * k + 200 < _; omega⟩
theorem Room.depth {k : Nat} {A : Around} (r : Room k A) : A.depth < recursionLimit := by have := r.dp; omega
theorem Room.units {k : Nat} {A : Around} (r : Room k A) : A.units + 64 < cLine := by have := r.un; omega
/-! ### argument lists and displays -/
def tNil : TA := fun _ H Q => Q [] H
def tCons (ta : TE) (tr : TA) : TA := fun σ H Q => ta σ H fun x H1 => tr σ H1 fun xs H2 => Q (x :: xs) H2
section
variable {X : Cx} {e : Expr} {es : List Expr} {te : TE} {t : TA} {pos : Pos}
theorem pa_nil : PA X [] tNil := fun _ _ _ _ H Q I h => Calls.spliced_nil ⟨[], H, I, .nil, h⟩
theorem pa_cons (ha : PE X e te) (hr : PA X es t) (hs : starEach (e :: es) X.env = (false, eval e X.env) :: starEach es X.env := by rfl) : PA X (e :: es) (tCons te t) := by
  intro pos pins s σ H Q I h
  rw [hs]
  show wpAny _ _ (spliced ((false, eval e X.env) :: backTo pos (starEach es X.env))) _ _ s
  refine Calls.spliced_cons (thn (ha pins s σ H _ I h) fun u s1 ⟨x, H1, I1, r1, q1⟩ => ?_)
  exact thn (hr pos pins s1 σ H1 _ I1 q1) fun us s2 ⟨xs, H2, I2, r2, q2⟩ => ⟨x :: xs, H2, I2, .cons r1 r2, q2⟩

/-- a tuple, a list of written items -/
def tTup (t : TA) : TE := fun σ H Q => t σ H fun xs H1 => xs.length ≤ sizeLine ∧ ∀ p, H1 p = none → Q (.ref p) (upd H1 p (.tup xs))
def tLst (t : TA) : TE := fun σ H Q => t σ H fun xs H1 => xs.length ≤ sizeLine ∧ ∀ p, H1 p = none → Q (.ref p) (upd H1 p (.lst xs))
theorem pe_tup {x1} (h : PA X es t) : PE X (.Tuple es x1 pos) (tTup t) := by
  intro pins s σ H Q I hq
  refine wpAny_Tuple_spliced (thn (h pos pins s σ H _ I hq) fun us s1 ⟨xs, H1, I1, r, z, q⟩ => ⟨by rw [← r.length]; exact z, ?_⟩)
  have hf : H1 s1.heap.objs.size = none := I1.hok.fresh (Nat.le_refl _)
  refine ⟨.ref s1.heap.objs.size, upd H1 s1.heap.objs.size (.tup xs), I1.laid (t' := s1.toks) (fun b u e => Heap.get?_push_of_some _ e) (Nat.le_refl _) ?_, rfl, q _ hf⟩
  exact ⟨z, us, r, ⟨_, Heap.get?_push_size _ rfl, rfl, _, rfl⟩⟩
theorem pe_lst (h : PA X es t) : PE X (.List es pos) (tLst t) := by
  intro pins s σ H Q I hq
  refine wpAny_List_spliced (thn (h pos pins s σ H _ I hq) fun us s1 ⟨xs, H1, I1, r, z, q⟩ => ⟨by rw [← r.length]; exact z, ?_⟩)
  have hf : H1 s1.heap.objs.size = none := I1.hok.fresh (Nat.le_refl _)
  refine ⟨.ref s1.heap.objs.size, upd H1 s1.heap.objs.size (.lst xs), I1.laid (t' := s1.toks) (fun b u e => Heap.get?_push_of_some _ e) (Nat.le_refl _) ?_, rfl, q _ hf⟩
  exact ⟨z, us, 0, r, Heap.get?_push_size _ rfl⟩
end

/-! ### what a def promises -/
/-- a def's promise: the bound arguments in the parameters' order, the heap, the wanted end, the wanted exception -/
abbrev Sp := List V → Hp → VK → XK → Prop
/-- how an exception lies behind a call (file 08 gives it): the callers' frames, abstract heap and state ahead of the call, the wish, the exception, the state -/
abbrev CXT := List Env → Hp → Shared → XK → Value → Shared → Prop

/-- the state at a call -/
structure Env0 (P : Program) (w : World) (K : PySem.W.Frag) (mg : Str → Option Value) (base : Heap) (A : Around) (outer : List Env) (s : Shared) (H : Hp) : Prop where
  frames : A.frames = some outer
  mod : Mod K mg base
  bs : ∀ b o, base.get? b = some o → s.heap.get? b = some o ∧ H b = none
  bsz : base.objs.size ≤ s.heap.objs.size
  funs : s.heap.FunFrames base outer
  frf : ∀ b ∈ frs outer, H b = none
  hok : HOk P w H s.heap
  bare : AllBare s.gens
/-- a call's end -/
def CE (outer : List Env) (P : Program) (w : World) (H : Hp) (s : Shared) (Q : VK) (u : Value) (s' : Shared) : Prop :=
  ∃ v H', s'.os = s.os ∧ AllBare s'.gens ∧ Un (frs outer) [] H H' s.heap s'.heap ∧ HOk P w H' s'.heap ∧ RelV v u ∧ Q v H'
def CR (CX : CXT) (outer : List Env) (P : Program) (w : World) (H : Hp) (s : Shared) (Q : VK) (E : XK) (r : Result) (s' : Shared) : Prop :=
  match r with
  | .ok (.ret u) => CE outer P w H s Q u s'
  | .ok _ => False
  | .error e => CX outer H s E e s'
structure FnOk (P : Program) (w : World) (K : PySem.W.Frag) (mg : Str → Option Value) (base : Heap) (CX : CXT) (k : Nat) (f : Addr) (fd : FuncData) (ps : List Str) (sp : Sp) : Prop where
  len : ∀ vs H Q E, sp vs H Q E → vs.length = ps.length
  run : ∀ (A : Around) (outer : List Env) (s : Shared) (H : Hp) (args : Args) (us : List Value) (vs : List V) (Q : VK) (E : XK), Room k A → Env0 P w K mg base A outer s H → BindsTo s fd args (ps.zip us) → Vals vs us → sp vs H Q E →
    codeAny (model P w) A (.call (.ref f) args) (CR CX outer P w H s Q E) s
section
variable {X : Cx} {pins : List (Addr × Obj)} {σ : St} {H : Hp} {s s' : Shared}
/-- from a body: what a callee wants -/
theorem Inv.env0 (I : Inv X pins σ H s) : Env0 X.prog X.w X.K X.mg X.base X.A X.stack s H :=
  ⟨I.ok.frames, I.ok.mod, I.bs, Nat.le_trans I.ok.bsz I.sz, I.stack, I.stkFree, I.hok, I.bare⟩
/-- behind a call -/
theorem Inv.after {Q : VK} {u : Value} (I : Inv X pins σ H s) (h : CE X.stack X.prog X.w H s Q u s') : EP X pins σ Q u s' := by
  obtain ⟨v, H', os, bare, un, hok, r, q⟩ := h
  obtain ⟨hh, g, d, t, os'⟩ := s'
  obtain rfl : os' = s.os := os
  exact ⟨v, H', I.call (h' := hh) (g' := g) (d' := d) (t' := t) (ch := []) un hok bare (fun b z => absurd z (by simp)), r, q⟩
end

/-! ### calls -/
/-- f(..): the written arguments, then the defaults dvs; E: what is wanted of an exception -/
def tCall (sp : Sp) (dvs : List V) (E : XK) (t : TA) : TE := fun σ H Q => t σ H fun vs H1 => sp (vs ++ dvs) H1 Q E
/-- o.m(..) of an instance of the class at C -/
def tMeth (C : Addr) (m : Str) (sp : Sp) (dvs : List V) (E : XK) (ta : TE) (t : TA) : TE := fun σ H Q => ta σ H fun x H1 => ∃ a dx fs, x = .ref a ∧ H1 a = some (.ins C dx fs) ∧ fs.lookup m = none ∧
  t σ H1 fun vs H2 => sp (x :: (vs ++ dvs)) H2 Q E
/-- C(..): a new instance and its dict, then __init__ -/
def tMake (C : Addr) (sp : Sp) (dvs : List V) (E : XK) (t : TA) : TE := fun σ H Q => t σ H fun vs H1 => ∀ x dx, H1 x = none → H1 dx = none → dx ≠ x →
  sp (.ref x :: (vs ++ dvs)) (upd (upd H1 dx (.own x)) x (.ins C dx [])) (fun v H2 => v = .non ∧ Q (.ref x) H2) E

/-- how the parameters are bound: us the positional arguments, kw the keywords' values by name, ds the defaults that fill up -/
def Binds (K : PySem.W.Frag) (fd : FuncData) (ps : List Str) (ds : List Value) : Prop :=
  ∀ (s : Shared) (us : List Value), K.In s.heap → (us ++ ds).length = ps.length → BindsTo s fd ⟨us, []⟩ (ps.zip (us ++ ds))
/-- every parameter is given -/
theorem Binds.all {K : PySem.W.Frag} {fd : FuncData} {ps : List Str} (h : ∀ us : List Value, us.length = ps.length → bindArgs fd ⟨us, []⟩ = pure (ps.zip us)) : Binds K fd ps [] := fun s us _ hl => by
  rw [List.append_nil] at hl ⊢
  exact .of_eq (h us hl)

/-- an exception of a callee reaches what this body wants of exceptions -/
def Passes (CX : CXT) (X : Cx) (E : XK) : Prop := ∀ (pins : List (Addr × Obj)) (σ : St) (H : Hp) (s : Shared) (e : Value) (s' : Shared), Inv X pins σ H s → CX X.stack H s E e s' → X.xe e s'

section
variable {X : Cx} {CX : CXT} {k : Nat} {f C : Addr} {fd : FuncData} {ps : List Str} {sp : Sp} {dvs : List V} {ds : List Value} {E : XK} {x m : Str} {p pos apos : Pos} {e o : Expr} {es : List Expr} {ta : TE} {t : TA}

/-- the callee runs -/
theorem run_fn {pins : List (Addr × Obj)} {σ : St} {H : Hp} {s : Shared} {Q : VK} {us : List Value} {vs : List V} (F : FnOk X.prog X.w X.K X.mg X.base CX k f fd ps sp) (hr : Room k X.A) (hb : Binds X.K fd ps ds) (hd : Vals dvs ds) (hx : Passes CX X E)
    (I : Inv X pins σ H s) (r : Vals vs us) (h : sp (vs ++ dvs) H Q E) : wpAny (model X.prog X.w) X.A (call (.ref f) us) (EP X pins σ Q) X.xe s := by
  have r2 : Vals (vs ++ dvs) (us ++ ds) := r.append hd
  have hl : (us ++ ds).length = ps.length := by rw [← r2.length]; exact F.len _ _ _ _ h
  refine wpAny_call (codeAny_mono (F.run X.A X.stack s H ⟨us, []⟩ (us ++ ds) (vs ++ dvs) Q E hr I.env0 (hb s us I.kIn hl) r2 h) fun r s' hq => ?_)
  cases r with
  | error e => exact hx pins σ H s e s' I hq
  | ok fl =>
    cases fl with
    | ret u => exact I.after hq
    | next => exact False.elim hq
    | brk => exact False.elim hq
    | cont => exact False.elim hq

theorem pe_call (F : FnOk X.prog X.w X.K X.mg X.base CX k f fd ps sp) (hr : Room k X.A) (hg : Gl X x) (hm : X.mg x = some (.ref f)) (hk : PySem.W.keepIn X.K (.ref f) = true) (hb : Binds X.K fd ps ds) (hd : Vals dvs ds) (hx : Passes CX X E)
    (ha : PA X (e :: es) t) (hdb : (x == ("__debug__" : Str)) = false := by decide) (he : starEach (e :: es) X.env = (false, eval e X.env) :: starEach es X.env := by rfl) (hpl : (backTo pos (starEach es X.env)).any (·.1) = false := by rfl) :
    PE X (.Call (.Name x p) (e :: es) [] pos) (tCall sp dvs E t) := by
  intro pins s σ H Q I h
  refine wpAny_Call_Name_kw (ld_glob I hg hm ?_ hdb)
  refine PySem.W.callWith_K (h₀ := X.base) I.ok.mod.kin hk (thn (ha pos pins s σ H _ I h) fun us s1 ⟨vs, H1, I1, r, q⟩ => ⟨I1.kIn, ?_⟩) he hpl
  exact run_fn F hr hb hd hx I1 r q
/-- what a class must have to be made -/
structure Mk (K : PySem.W.Frag) (C f : Addr) : Prop where
  makes : PySem.W.makesIn K C = true
  init : PySem.W.findIn K (.ref C) "__init__" = some (some (.ref f))
  fn : PySem.W.isFn K (.ref f) = true
  kp : PySem.W.keepIn K (.ref C) = true

end

/-! ### keywords -/
/-- the values of the keywords, from the left -/
def PK (X : Cx) (kws : List Keyword) (t : TA) : Prop :=
  ∀ (pos : Pos) (pins : List (Addr × Obj)) (s : Shared) (σ : St) (H : Hp) (Q : List V → Hp → Prop), Inv X pins σ H s → t σ H Q → wpAny (model X.prog X.w) X.A (evalAll ((backToKw pos (keywordEach kws X.env)).map (·.2))) (AP X pins σ Q) X.xe s
section
variable {X : Cx} {CX : CXT} {k : Nat} {f C : Addr} {fd : FuncData} {ps ks : List Str} {sp : Sp} {E : XK} {x m : Str} {p pos apos kpos : Pos} {e o : Expr} {es : List Expr} {kws : List Keyword} {te ta : TE} {t tk : TA} {nm : Option Str}
/-- how a call with keywords binds: g puts the positional values us and the keywords' values ws (names ks) in the parameters' order, defaults among them -/
structure KBinds (K : PySem.W.Frag) (fd : FuncData) (ps ks : List Str) (g : List Value → List Value → List Value) (gV : List V → List V → List V) : Prop where
  to : ∀ (s : Shared) (us ws : List Value), K.In s.heap → (g us ws).length = ps.length → BindsTo s fd ⟨us, ks.zip ws⟩ (ps.zip (g us ws))
  rel : ∀ {vs : List V} {us : List Value} {zs : List V} {ws : List Value}, Vals vs us → Vals zs ws → Vals (gV vs zs) (g us ws)
def tCallK (sp : Sp) (gV : List V → List V → List V) (E : XK) (t tk : TA) : TE := fun σ H Q => t σ H fun vs H1 => tk σ H1 fun zs H2 => sp (gV vs zs) H2 Q E
variable {g : List Value → List Value → List Value} {gV : List V → List V → List V}
end

/-! ### a def's body keeps its promise -/
/-- names: the parameters first -/
structure FnScope (N P : List Str) (sc : Scope) : Prop where
  kind : sc.kind = .function
  co : sc.isCoroutine = false
  gen : sc.isGenerator = false
  nd : N.Nodup
  pre : N.take P.length = P
  par : ∀ x ∈ P, sc.names.lookup x = some .local ∨ sc.names.lookup x = some .cell
  nofree : ∀ y ∈ sc.names, y.2 ≠ .free

theorem bindL_out {kindOf : Str → Option NameKind} {x : Str} : ∀ {binds : List (Str × Value)} {m : Str → Option Value}, (∀ v, (x, v) ∉ binds) → bindL kindOf binds m x = m x
  | [], _, _ => rfl
  | (n, v) :: r, m, h => by
    unfold bindL
    rw [bindL_out fun w hw => h w (List.mem_cons_of_mem _ hw)]
    split
    · have : x ≠ n := by rintro rfl; exact h v List.mem_cons_self
      simp [this]
    · rfl
theorem bindC_out {kindOf : Str → Option NameKind} {x : Str} : ∀ {binds : List (Str × Value)} {m : Str → Option Value}, (∀ v, (x, v) ∉ binds) → bindC kindOf binds m x = m x
  | [], _, _ => rfl
  | (n, v) :: r, m, h => by
    unfold bindC
    rw [bindC_out fun w hw => h w (List.mem_cons_of_mem _ hw)]
    split
    · rfl
    · have : x ≠ n := by rintro rfl; exact h v List.mem_cons_self
      simp [this]
theorem bindL_get {kindOf : Str → Option NameKind} {x : Str} {v : Value} : ∀ {P : List Str} {vs : List Value} {i : Nat} {m : Str → Option Value}, P.Nodup → P[i]? = some x → vs[i]? = some v → kindOf x = some .local →
    bindL kindOf (P.zip vs) m x = some v
  | [], _, _, _, _, h, _, _ => by simp at h
  | _ :: _, [], _, _, _, _, h, _ => by simp at h
  | p :: P, w :: vs, 0, m, nd, h1, h2, hk => by
    simp at h1 h2; subst h1; subst h2
    show bindL kindOf ((p, w) :: P.zip vs) m p = _
    unfold bindL
    rw [bindL_out fun v hv => (List.nodup_cons.mp nd).1 (List.of_mem_zip hv).1, if_pos hk]
    simp
  | p :: P, w :: vs, i + 1, m, nd, h1, h2, hk => by
    show bindL kindOf ((p, w) :: P.zip vs) m x = _
    unfold bindL
    exact bindL_get (i := i) (List.nodup_cons.mp nd).2 (by simpa using h1) (by simpa using h2) hk
theorem bindC_get {kindOf : Str → Option NameKind} {x : Str} {v : Value} : ∀ {P : List Str} {vs : List Value} {i : Nat} {m : Str → Option Value}, P.Nodup → P[i]? = some x → vs[i]? = some v → kindOf x ≠ some .local →
    bindC kindOf (P.zip vs) m x = some v
  | [], _, _, _, _, h, _, _ => by simp at h
  | _ :: _, [], _, _, _, _, h, _ => by simp at h
  | p :: P, w :: vs, 0, m, nd, h1, h2, hk => by
    simp at h1 h2; subst h1; subst h2
    show bindC kindOf ((p, w) :: P.zip vs) m p = _
    unfold bindC
    rw [bindC_out fun v hv => (List.nodup_cons.mp nd).1 (List.of_mem_zip hv).1, if_neg hk]
    simp
  | p :: P, w :: vs, i + 1, m, nd, h1, h2, hk => by
    show bindC kindOf ((p, w) :: P.zip vs) m x = _
    unfold bindC
    exact bindC_get (i := i) (List.nodup_cons.mp nd).2 (by simpa using h1) (by simpa using h2) hk

/-- the names' values at the entry -/
def start (N : List Str) (vs : List V) : St := vs.map some ++ List.replicate (N.length - vs.length) none

/-- the context of a def's body, at its entry; an exception leaves the frame, then lies as CX says -/
def cxOf (CX : CXT) (P : Program) (w : World) (K : PySem.W.Frag) (mg : Str → Option Value) (base : Heap) (N : List Str) (qual : Str) (scope : Scope) (f : Addr) (cd : Value) (A : Around) (outer : List Env) (s : Shared) (H : Hp) (E : XK) : Cx where
  prog := P
  w := w
  K := K
  mg := mg
  base := base
  A := A.deeper (envOfC qual scope s.heap.objs.size f cd)
  N := N
  s₀ := s
  H₀ := H
  env := envOfC qual scope s.heap.objs.size f cd
  outer := outer
  stack := envOfC qual scope s.heap.objs.size f cd :: outer
  ex := []
  calm := true
  fn := fun _ => true
  pn := []
  xe := fun e s' => wpAny (model P w) (A.deeper (envOfC qual scope s.heap.objs.size f cd)) (leaving (envOfC qual scope s.heap.objs.size f cd) e) (fun _ s'' => CX outer H s E e s'') (fun e' s'' => CX outer H s E e' s'') s'

theorem cell_has {sc : Scope} {n : Nat} {x : Str} (h : sc.names.lookup x = some .cell) : ∃ c, (cellsFrom n sc.names []).lookup x = some c := by
  have q := PySem.W.cellsFrom_some sc.names n [] (.inl h)
  exact Option.isSome_iff_exists.mp q

theorem inv_start {CX : CXT} {P : Program} {w : World} {K : PySem.W.Frag} {mg : Str → Option Value} {base : Heap} {N ps : List Str} {qual : Str} {scope : Scope} {f : Addr} {cd : Value} {A : Around} {outer : List Env} {s s1 : Shared} {H : Hp} {E : XK} {us : List Value} {vs : List V}
    (S : FnScope N ps scope) (hd : A.handled = none) (e0 : Env0 P w K mg base A outer s H) (hl : vs.length = ps.length) (r : Vals vs us)
    (x : InCallC s s.heap.objs.size (bindL (envOfC qual scope s.heap.objs.size f cd).kindOf (ps.zip us) fun _ => none) (cellsFrom (s.heap.objs.size + 1) scope.names []) (bindC (envOfC qual scope s.heap.objs.size f cd).kindOf (ps.zip us) fun _ => none) s1) :
    Inv (cxOf CX P w K mg base N qual scope f cd A outer s H E) [] (start N vs) H s1 := by
  have hpl : ps.length ≤ N.length := by have := congrArg List.length S.pre; rw [List.length_take] at this; omega
  obtain ⟨h1, tk, rfl, hk⟩ := x.done
  have noA : ∀ b : Addr, b ∉ (cxOf CX P w K mg base N qual scope f cd A outer s H E).ex := fun b z => absurd (show b ∈ ([] : List Addr) from z) (by simp)
  refine ⟨⟨e0.mod, S.kind, rfl, rfl, Nat.le_refl _, fun y z c h1 h2 => ?_, fun y hy => ?_, fun y c _ h => ?_, fun _ => hd, Around.frames_deeper e0.frames, .inr ⟨rfl, rfl⟩, fun b z => absurd z (noA b), e0.bs, e0.bsz, fun b _ _ => noA b, fun b z => absurd z (noA b), e0.funs, e0.frf⟩,
    rfl, e0.bare, Un.kept hk, ⟨_, x.toInCall.ns, fun i y v h1 h2 h3 => ?_⟩, fun y c h => ⟨_, x.cell y c h⟩, e0.hok.fresh (Nat.le_refl _), fun y c h => ?_, fun p hp => absurd (show p ∈ ([] : List (Addr × Obj)) from hp) (by simp), e0.hok.kept hk, ?_⟩
  · exact name_of_addr x.apart (PySem.mem_of_lookup h1) (PySem.mem_of_lookup h2)
  · have hy : scope.names.lookup y = some .cell ∨ scope.names.lookup y = some .free := hy
    rcases hy with hy | hy
    · exact cell_has hy
    · exact absurd rfl (S.nofree _ (PySem.mem_of_lookup hy))
  · exact Nat.le_of_lt (x.above y c (PySem.mem_of_lookup h))
  · have hi : i < vs.length := by
      unfold start at h2
      by_cases hi : i < vs.length
      · exact hi
      · rw [List.getElem?_append_right (by simpa using hi)] at h2
        rw [List.getElem?_replicate] at h2
        split at h2 <;> cases h2
    have ha : vs[i]? = some v := by
      unfold start at h2
      rw [List.getElem?_append_left (by simpa using hi), List.getElem?_map] at h2
      cases e : vs[i]? with
      | none => rw [e] at h2; cases h2
      | some a => rw [e] at h2; cases h2; rfl
    obtain ⟨u, hu, rv⟩ := r.get ha
    have hp : ps[i]? = some y := by
      rw [← S.pre, List.getElem?_take_of_lt (by omega)]; exact h1
    have ndP : ps.Nodup := by rw [← S.pre]; exact S.nd.sublist (List.take_sublist _ _)
    refine ⟨u, rv, ?_⟩
    rcases S.par y (List.mem_of_getElem? hp) with k | k
    · exact .inl ⟨k, bindL_get ndP hp hu k⟩
    · obtain ⟨c, e⟩ := cell_has (n := s.heap.objs.size + 1) k
      refine .inr ⟨.inl k, c, e, ?_⟩
      have q := x.cell y c e
      rw [bindC_get ndP hp hu (by show scope.names.lookup y ≠ _; rw [k]; decide)] at q
      exact q
  · exact e0.hok.fresh (Nat.le_of_lt (x.above y c (PySem.mem_of_lookup h)))
  · unfold start
    show _ = N.length
    rw [List.length_append, List.length_map, List.length_replicate]
    omega

/-- THE RULE: a def (or a method) of the text, by its body. The body's reading t is chosen for each entry; it is run at the parameters' values -/
theorem fn_of {CX : CXT} {P : Program} {w : World} {K : PySem.W.Frag} {mg : Str → Option Value} {base : Heap} {k : Nat} {f : Addr} {name qual : Str} {params : Arguments} {body : List Stmt} {scope : Scope} {dV kV doc pm cdv ct oc : Value} {an od : Option Addr}
    {osl : Array (Option Value)} {N ps : List Str} {sp : Sp} (lk : K.lookup f = some ⟨oc, od, .func (PySem.W.fnOf name qual params body scope dV kV doc pm an cdv ct), osl⟩) (hcd : PySem.W.codeIn K cdv qual = true) (S : FnScope N ps scope)
    (len : ∀ vs H Q E, sp vs H Q E → vs.length = ps.length)
    (hbody : ∀ (A : Around) (outer : List Env) (s : Shared) (H : Hp) (vs : List V) (Q : VK) (E : XK), Room k (A.deeper (envOfC qual scope s.heap.objs.size f cdv)) → sp vs H Q E →
      ∃ t, PSs (cxOf CX P w K mg base N qual scope f cdv A outer s H E) body t ∧ t { nx := fun _ H' => Q .non H', rt := Q } (start N vs) H) :
    FnOk P w K mg base CX (k + 1) f (PySem.W.fnOf name qual params body scope dV kV doc pm an cdv ct) ps sp := by
  refine ⟨len, fun A outer s H args us vs Q E hr e0 hb r hsp => ?_⟩
  have hl := len _ _ _ _ hsp
  have KX : K.In s.heap := e0.mod.kin.keeps fun b o e => (e0.bs b o e).1
  have lim : s.heap.NoLimit := e0.mod.nolimit.keeps fun b o e => (e0.bs b o e).1
  have hkind : ∀ y ∈ ps.zip us, scope.names.lookup y.1 = some .local ∨ (scope.names.lookup y.1 = some .cell ∧ ((cellsFrom (s.heap.objs.size + 1) scope.names []).lookup y.1).isSome = true) := fun ⟨n, v⟩ hy => by
    rcases S.par n (List.of_mem_zip hy).1 with q | q
    · exact .inl q
    · exact .inr ⟨q, PySem.W.cellsFrom_some _ _ _ (.inl q)⟩
  refine codeAny_call_function hr.depth (KX _ _ lk) rfl S.co S.gen rfl (PySem.W.codeRec_of KX hcd) (hb _ _ _ _ ?_)
  refine wpAny_newFunctionEnv_cells S.kind hkind fun env he s1 x => ?_
  subst he
  refine ⟨lim.keeps x.toInCall.keep, codeAny_func ?_⟩
  obtain ⟨t, ht, hq⟩ := hbody A outer s H vs Q E (hr.deeper _) hsp
  have I : Inv (cxOf CX P w K mg base N qual scope f cdv A outer s H E) [] (start N vs) H s1 := inv_start S hr.hd e0 hl r x
  refine wpAny_mono (ht [] s1 (start N vs) H _ I hq) (fun fl s' hs => ?_) fun e s' hs => hs
  have fin : ∀ {σ' : St} {H' : Hp} {v : V} {u : Value}, Inv (cxOf CX P w K mg base N qual scope f cdv A outer s H E) [] σ' H' s' → RelV v u → Q v H' → CE outer P w H s Q u s' :=
    fun {σ' H' v u} J rv q => ⟨v, H', J.os, J.bare, J.base, J.hok, rv, q⟩
  cases fl with
  | ret u =>
    obtain ⟨v, σ', H', J, rv, q⟩ := hs
    exact fin J rv q
  | next =>
    obtain ⟨σ', H', J, q⟩ := hs
    exact fin (v := V.non) (u := Value.none) J rfl q
  | brk =>
    obtain ⟨_, _, _, q⟩ := hs
    exact False.elim q
  | cont =>
    obtain ⟨_, _, _, q⟩ := hs
    exact False.elim q
end L2

namespace L2
open PySem PySem.Spec PyProof.Rows
section
variable {X : Cx} {x : Str} {p pos : Pos} {e : Expr} {es : List Expr} {t : TA} {id T : String} {r : List V → Hp → VK → Prop}

def tCB (r : List V → Hp → VK → Prop) (t : TA) : TE := fun σ H Q => t σ H fun vs H1 => r vs H1 Q
/-- f(e, ..), f a built-in function -/
theorem pe_callB (hc : CallR X (.builtin id) r) (hg : Gl X x) (hm : X.mg x = none) (hv : bootBuiltins x = some (.builtin id)) (ha : PA X (e :: es) t) (hn : x ≠ "__name__" := by decide) (hdb : (x == ("__debug__" : Str)) = false := by decide)
    (he : starEach (e :: es) X.env = (false, eval e X.env) :: starEach es X.env := by rfl) (hpl : (backTo pos (starEach es X.env)).any (·.1) = false := by rfl) : PE X (.Call (.Name x p) (e :: es) [] pos) (tCB r t) := by
  intro pins s σ H Q I h
  refine wpAny_Call_Name_kw (ld_blt I hg hm hv ?_ hn hdb)
  exact PyProof.Rows.callWith_builtin1 (thn (ha pos pins s σ H _ I h) fun us s1 ⟨vs, H1, I1, r1, q1⟩ => hc pins s1 σ H1 vs us Q I1 r1 q1) he hpl
/-- T(e, ..), T a built-in type -/
theorem pe_callTy (hc : CallR X (.type T) r) (hg : Gl X x) (hm : X.mg x = none) (hv : bootBuiltins x = some (.type T)) (ha : PA X (e :: es) t) (hn : x ≠ "__name__" := by decide) (hdb : (x == ("__debug__" : Str)) = false := by decide)
    (he : starEach (e :: es) X.env = (false, eval e X.env) :: starEach es X.env := by rfl) (hpl : (backTo pos (starEach es X.env)).any (·.1) = false := by rfl) : PE X (.Call (.Name x p) (e :: es) [] pos) (tCB r t) := by
  intro pins s σ H Q I h
  refine wpAny_Call_Name_kw (ld_blt I hg hm hv ?_ hn hdb)
  exact PyProof.Rows.callWith_type1 (thn (ha pos pins s σ H _ I h) fun us s1 ⟨vs, H1, I1, r1, q1⟩ => hc pins s1 σ H1 vs us Q I1 r1 q1) he hpl
end
end L2

namespace HT
open PySem PyProof.Rows

/-- t < u of tuples of ints -/
def lexLt : List Int → List Int → Bool
  | [], [] => false
  | [], _ :: _ => true
  | _ :: _, [] => false
  | x :: xs, y :: ys => if x = y then lexLt xs ys else decide (x < y)
section
open PySem.SeqAt
open PySem.AutoSeq1 (wpAny_loadPart')
open PySem.MeetsSeq PySem.MeetsSeq2 PySem.MeetsSeq3

end

section
variable {prog : Program} {w : World} {A : Around} {E : Value → Shared → Prop} {s : Shared}

/-! ### t[a:b], not the whole -/
/-- a slice's bound as a place among n (d where it is left out) -/
def sIx (n d : Nat) : Option Int → Nat
  | none => d
  | some v => if v < 0 then (v + (n : Int)).toNat else min v.toNat n
theorem sIx_none (n d : Nat) : sIx n d none = d := rfl
theorem sIx_nat (n d k : Nat) : sIx n d (some (k : Int)) = min k n := by
  show (if (k : Int) < 0 then ((k : Int) + (n : Int)).toNat else min (k : Int).toNat n) = min k n
  rw [if_neg (by omega), Int.toNat_natCast]
end
end HT

namespace L2
open PySem PySem.Spec PyProof.Rows

/-! ### the parts of a slice -/
abbrev TO := St → Hp → (Option Int → Hp → Prop) → Prop
/-- a slice's part (left out, or an int) -/
def PO (X : Cx) (e : Option Expr) (t : TO) : Prop :=
  ∀ (pins : List (Addr × Obj)) (s : Shared) (σ : St) (H : Hp) (Q : Option Int → Hp → Prop), Inv X pins σ H s → t σ H Q →
    wpAny (model X.prog X.w) X.A (evalPart e X.env) (fun u s' => ∃ o H', Inv X pins σ H' s' ∧ IsPart u o ∧ Q o H') X.xe s
def tNoPart : TO := fun _ H Q => Q none H
def tPart (t : TE) : TO := fun σ H Q => t σ H fun x H1 => ∃ i, x = .int i ∧ Q (some i) H1

theorem intsAre_of {ns : List Int} : ∀ {us : List Value}, Vals (ns.map V.int) us → IntsAre us ns := by
  induction ns with
  | nil => intro us r; rw [List.map_nil] at r; cases r; exact .nil
  | cons n ns ih =>
    intro us r
    rw [List.map_cons] at r
    cases r with
    | cons r1 r2 =>
      obtain ⟨t, e⟩ := r1
      subst e
      exact .cons n t (ih r2)

section
variable {X : Cx} {e : Expr} {te : TE} {lo hi : Option Expr} {tl th : TO} {pos p2 : Pos}

theorem po_none : PO X none tNoPart := by
  intro pins s σ H Q I h
  rw [evalPart_none]
  exact wpAny_pure ⟨none, H, I, .none, h⟩
theorem po_some (h : PE X e te) : PO X (some e) (tPart te) := by
  intro pins s σ H Q I hw
  rw [evalPart_some]
  refine thn (h pins s σ H _ I hw) fun u s1 ⟨x, H1, I1, r1, q1⟩ => ?_
  obtain ⟨i, rfl, q⟩ := q1
  obtain ⟨t, rfl⟩ := r1
  exact ⟨some i, H1, I1, .int i t, q⟩

/-- what a slice of a value is, by values: the slice object stands at sl -/
def SlR (X : Cx) (r : V → Option Int → Option Int → Hp → VK → Prop) : Prop :=
  ∀ (pins : List (Addr × Obj)) (s : Shared) (σ : St) (H : Hp) (x : V) (v vl vu : Value) (lo hi : Option Int) (sl : Addr) (Q : VK), Inv X pins σ H s → RelV x v → s.heap.IsSliceOf sl vl vu .none → IsPart vl lo → IsPart vu hi → r x lo hi H Q →
    ∃ T id, typeLookup (.type T) "__getitem__" = pure (some (.builtin id)) ∧ s.TypeIs v T ∧ wpAny (model X.prog X.w) X.A (getItem v (.ref sl)) (EP X pins σ Q) X.xe s
def tSl (r : V → Option Int → Option Int → Hp → VK → Prop) (te : TE) (tl th : TO) : TE := fun σ H Q => te σ H fun x H1 => tl σ H1 fun l H2 => th σ H2 fun u H3 => r x l u H3 Q
/-- a[lo:hi], any a -/
theorem pe_slice {r : V → Option Int → Option Int → Hp → VK → Prop} (hr : SlR X r) (he : PE X e te) (hl : PO X lo tl) (hu : PO X hi th) : PE X (.Subscript e (.Slice lo hi none p2) pos) (tSl r te tl th) := by
  intro pins s σ H Q I h
  refine Subscript_ (thn (he pins s σ H _ I h) fun v s1 ⟨x, H1, I1, r1, q1⟩ => ?_)
  refine wpAny_Slice (thn (hl pins s1 σ H1 _ I1 q1) fun vl s2 ⟨l, H2, I2, pl, q2⟩ => thn (hu pins s2 σ H2 _ I2 q2) fun vu s3 ⟨u, H3, I3, pu, q3⟩ => ?_)
  rw [evalPart_none]
  refine wpAny_pure ?_
  have I4 : Inv X pins σ H3 { s3 with heap := s3.heap.push { cls := .type "slice", data := .fields #[vl, vu, .none] } } := I3.kept (t' := s3.toks) fun b ob q => Heap.get?_push_of_some _ q
  obtain ⟨T, id, hT, ht, hg⟩ := hr pins { s3 with heap := s3.heap.push { cls := .type "slice", data := .fields #[vl, vu, .none] } } σ H3 x v vl vu l u s3.heap.objs.size Q I4 r1 (Heap.IsSliceOf.new ..) pl pu q3
  show wpAny (model X.prog X.w) X.A (subscriptTail e (.Slice lo hi none p2) v (.ref s3.heap.objs.size)) (EP X pins σ Q) X.xe { s3 with heap := s3.heap.push { cls := .type "slice", data := .fields #[vl, vu, .none] } }
  exact tail_any (ops := [.ref s3.heap.objs.size, v]) ht hT hg (by with_unfolding_all rfl)

/-- the items of xs[lo:hi] -/
def cutV (xs : List V) (lo hi : Option Int) : List V := (xs.drop (HT.sIx xs.length 0 lo)).take (HT.sIx xs.length xs.length hi - HT.sIx xs.length 0 lo)
theorem cutV_length (xs : List V) (lo hi : Option Int) : (cutV xs lo hi).length ≤ xs.length := by
  unfold cutV
  rw [List.length_take, List.length_drop]
  omega
/-- t[lo:hi], not the whole of it (the whole would be t itself) -/
def rSlT (K : PySem.W.Frag) : V → Option Int → Option Int → Hp → VK → Prop := fun x lo hi H Q => ∃ a xs, x = .ref a ∧ SqT K H a xs ∧
  ¬ (HT.sIx xs.length 0 lo = 0 ∧ HT.sIx xs.length xs.length hi = xs.length) ∧ ∀ p, H p = none → Q (.ref p) (upd H p (.tup (cutV xs lo hi)))
/-! ### t < u, t + u -/
def rLtT (K : PySem.W.Frag) : R2 := fun x y H Q => ∃ a b ns ms, x = .ref a ∧ y = .ref b ∧ SqT K H a (ns.map V.int) ∧ SqT K H b (ms.map V.int) ∧ Q (.bl (HT.lexLt ns ms)) H
/-- t + u, t not empty: u empty gives t itself -/
def rCatT (K : PySem.W.Frag) : R2 := fun x y H Q => ∃ a b xs ys, x = .ref a ∧ y = .ref b ∧ SqT K H a xs ∧ SqT K H b ys ∧ xs ≠ [] ∧ xs.length + ys.length ≤ sizeLine ∧
  (ys = [] → Q (.ref a) H) ∧ (ys ≠ [] → ∀ p, H p = none → Q (.ref p) (upd H p (.tup (xs ++ ys))))
end
end L2

namespace L2
open PySem PySem.Spec PyProof.Rows

/-! ### places -/
/-- the place that an index of any sign means -/
def ixN (n : Nat) (i : Int) : Option Nat := if 0 ≤ i then (if i < n then some i.toNat else none) else if -(n : Int) ≤ i then some (i + n).toNat else none
def atI {α : Type} (xs : List α) (i : Int) : Option α := (ixN xs.length i).bind fun j => xs[j]?
theorem ixN_seq {n : Nat} {i : Int} {j : Nat} (h : ixN n i = some j) : seqIndex? i n = some j ∧ j < n ∧ -(n : Int) ≤ i ∧ i < n := by
  unfold ixN at h
  by_cases h0 : 0 ≤ i
  · rw [if_pos h0] at h
    by_cases h1 : i < n
    · rw [if_pos h1] at h
      have e : i.toNat = j := Option.some.inj h
      exact ⟨by rw [seqIndex_of h0 h1, e], by omega, by omega, h1⟩
    · rw [if_neg h1] at h; cases h
  · rw [if_neg h0] at h
    by_cases h1 : -(n : Int) ≤ i
    · rw [if_pos h1] at h
      have e : (i + n).toNat = j := Option.some.inj h
      exact ⟨by rw [seqIndex_neg (by omega) h1, e], by omega, h1, by omega⟩
    · rw [if_neg h1] at h; cases h
theorem atI_get {α : Type} {xs : List α} {i : Int} {v : α} (h : atI xs i = some v) : ∃ j, seqIndex? i xs.length = some j ∧ xs[j]? = some v ∧ j < xs.length ∧ -(xs.length : Int) ≤ i ∧ i < xs.length := by
  unfold atI at h
  cases e : ixN xs.length i with
  | none => rw [e] at h; cases h
  | some j =>
    rw [e] at h
    obtain ⟨h1, h2, h3, h4⟩ := ixN_seq e
    exact ⟨j, h1, h, h2, h3, h4⟩
theorem atI_nat {α : Type} {xs : List α} {j : Nat} {v : α} (h : xs[j]? = some v) : atI xs (j : Int) = some v := by
  have hj : j < xs.length := (List.getElem?_eq_some_iff.mp h).1
  have e : ixN xs.length (j : Int) = some j := by
    unfold ixN
    rw [if_pos (by omega), if_pos (by omega)]; simp
  unfold atI; rw [e]; exact h
theorem atI_last {α : Type} (xs : List α) (v : α) : atI (xs ++ [v]) (-1) = some v := by
  have hl : (xs ++ [v]).length = xs.length + 1 := by simp
  have e : ixN (xs ++ [v]).length (-1) = some xs.length := by
    unfold ixN
    rw [hl, if_neg (by decide), if_pos (by omega)]
    congr 1
    omega
  unfold atI
  rw [e]
  show (xs ++ [v])[xs.length]? = some v
  simp

/-! ### what may be subscripted -/
/-- what stands as an index of a plain subscript -/
def PlainIx (b : Expr) : Prop := ∀ o i, subscripted b false o i = operate [o, i] (getItem o i)
/-- a subscript by values -/
def IxR (X : Cx) (r : R2) : Prop :=
  ∀ (value slice : Expr) (pins : List (Addr × Obj)) (s : Shared) (σ : St) (H : Hp) (x y : V) (v u : Value) (Q : VK), Inv X pins σ H s → RelV x v → RelV y u → r x y H Q →
    subscripted slice false v u = operate [v, u] (getItem v u) → wpAny (model X.prog X.w) X.A (subscriptTail value slice v u) (EP X pins σ Q) X.xe s
/-- a call of a builtin's method by values: the receiver, the arguments -/
def MtR (X : Cx) (id : String) (r : V → List V → Hp → VK → Prop) : Prop :=
  ∀ (pins : List (Addr × Obj)) (s : Shared) (σ : St) (H : Hp) (x : V) (xs : List V) (v : Value) (us : List Value) (Q : VK), Inv X pins σ H s → RelV x v → Vals xs us → r x xs H Q →
    wpAny (model X.prog X.w) X.A (call (.builtin id) (v :: us)) (EP X pins σ Q) X.xe s
section
variable {X : Cx} {a b : Expr} {ta tb : TE} {pos : Pos}
theorem IxR.or {r r' : R2} (h : IxR X r) (h' : IxR X r') : IxR X (fun x y H Q => r x y H Q ∨ r' x y H Q) := by
  intro value slice pins s σ H x y v u Q I rx ry q hs
  rcases q with q | q
  · exact h value slice pins s σ H x y v u Q I rx ry q hs
  · exact h' value slice pins s σ H x y v u Q I rx ry q hs
/-- a[b] -/
theorem pe_ix {r : R2} (hr : IxR X r) (ha : PE X a ta) (hb : PE X b tb) (hs : PlainIx b) : PE X (.Subscript a b pos) (tOp r ta tb) := by
  intro pins s σ H Q I h
  exact Subscript_ (binT ha hb I h fun v u s2 x y H2 I2 rx ry q => hr a b pins s2 σ H2 x y v u Q I2 rx ry q (hs _ _))

def rIxL (K : PySem.W.Frag) : R2 := fun x y H Q => ∃ p xs i v, x = .ref p ∧ y = .int i ∧ SqL K H p xs ∧ atI xs i = some v ∧ Q v H
def rIxT (K : PySem.W.Frag) : R2 := fun x y H Q => ∃ p xs i v, x = .ref p ∧ y = .int i ∧ SqT K H p xs ∧ atI xs i = some v ∧ Q v H
def rIxS : R2 := fun x y H Q => ∃ z i c, x = .str z ∧ y = .int i ∧ z.length ≤ sizeLine ∧ atI z.cps.toList i = some c ∧ Q (.str ⟨#[c]⟩) H
theorem ix_list : IxR X (rIxL X.K) := by
  intro value slice pins s σ H x y v u Q I rx ry h hs
  obtain ⟨p, xs, i, z, rfl, rfl, hq, he, q⟩ := h
  cases rx
  obtain ⟨t, rfl⟩ := ry
  obtain ⟨its, r, pl, hz⟩ := I.list hq
  obtain ⟨j, h1, h2, h3, h4, h5⟩ := atI_get he
  obtain ⟨w, ew, rw'⟩ := r.get h2
  have hl := r.length
  have hn := line63
  have fin : EP X pins σ Q w s := ⟨z, H, I, rw', q⟩
  by_cases h0 : 0 ≤ i
  · have hj : i.toNat = j := by
      rw [seqIndex_of h0 h5] at h1
      exact Option.some.inj h1
    exact item_listR pl.isList h0 (by omega) (by rw [hj]; simpa using ew) fin hs
  · have hj : (i + (its.toArray.size : Int)).toNat = j := by
      rw [seqIndex_neg (by omega) h4] at h1
      rw [List.size_toArray, ← hl]
      exact Option.some.inj h1
    exact subscriptTail_builtinR (x := w) pl.isList.typeIs slot_list_getitem.lookup
      (wpAny_getItem_list_neg (Q := fun r s' => r = w ∧ EP X pins σ Q r s') pl.isList (by omega) (by rw [List.size_toArray] <;> omega) (by omega) (by rw [hj]; simpa using ew) ⟨rfl, fin⟩) hs
theorem ix_tup : IxR X (rIxT X.K) := by
  intro value slice pins s σ H x y v u Q I rx ry h hs
  obtain ⟨p, xs, i, z, rfl, rfl, hq, he, q⟩ := h
  cases rx
  obtain ⟨t, rfl⟩ := ry
  obtain ⟨its, r, pl, hz⟩ := I.tuple hq
  obtain ⟨j, h1, h2, h3, h4, h5⟩ := atI_get he
  obtain ⟨w, ew, rw'⟩ := r.get h2
  have hl := r.length
  have hn := line63
  have fin : EP X pins σ Q w s := ⟨z, H, I, rw', q⟩
  exact subscriptTail_builtinR (x := w) pl.typeIs slot_tuple_getitem.lookup
    (getItem_tuple (j := j) (Q := fun r s' => r = w ∧ EP X pins σ Q r s') pl (by omega) (by omega) (by rw [List.size_toArray, ← hl]; exact h1) (by simpa using ew) ⟨rfl, fin⟩) hs
/-- list, tuple or str -/
def rIx (K : PySem.W.Frag) : R2 := fun x y H Q => rIxL K x y H Q ∨ rIxT K x y H Q ∨ rIxS x y H Q
/-! ### xs[i] = v, any sign -/
def rSetL : V → V → V → Hp → (Hp → Prop) → Prop := fun o i v H Q => ∃ p xs k j, o = .ref p ∧ i = .int k ∧ H p = some (.lst xs) ∧ ixN xs.length k = some j ∧ Q (upd H p (.lst (xs.set j v)))
/-! ### slices -/
theorem slice_bounds (lo hi : Option Int) (n : Nat) : (sliceBounds lo hi none n).1 = ((HT.sIx n 0 lo : Nat) : Int) ∧ (sliceBounds lo hi none n).2.1 = ((HT.sIx n n hi : Nat) : Int) ∧ (sliceBounds lo hi none n).2.2 = 1 := by
  refine ⟨?_, ?_, rfl⟩
  · cases lo with
    | none => simp [sliceBounds, HT.sIx]
    | some i =>
      simp only [sliceBounds, HT.sIx, Option.getD_none, show (1 : Int) > 0 by decide, if_true]
      by_cases h : i < 0
      · simp only [h, if_true] <;> omega
      · simp only [h, if_false] <;> omega
  · cases hi with
    | none => simp [sliceBounds, HT.sIx]
    | some i =>
      simp only [sliceBounds, HT.sIx, Option.getD_none, show (1 : Int) > 0 by decide, if_true]
      by_cases h : i < 0
      · simp only [h, if_true] <;> omega
      · simp only [h, if_false] <;> omega
theorem slicePick_cut (its : List Value) (lo hi : Option Int) : slicePick its.toArray lo hi none = ((its.drop (HT.sIx its.length 0 lo)).take (HT.sIx its.length its.length hi - HT.sIx its.length 0 lo)).toArray := by
  obtain ⟨h1, h2, h3⟩ := slice_bounds lo hi its.toArray.size
  unfold slicePick
  rw [h1, h2, h3]
  simp only [sliceRange_one, pick_run, List.size_toArray] <;> rfl
/-- xs[lo:hi] of a list: a new list -/
def rSlL (K : PySem.W.Frag) : V → Option Int → Option Int → Hp → VK → Prop := fun x lo hi H Q => ∃ a xs, x = .ref a ∧ SqL K H a xs ∧ ∀ p, H p = none → Q (.ref p) (upd H p (.lst (cutV xs lo hi)))
theorem sl_list : SlR X (rSlL X.K) := by
  intro pins s σ H x v vl vu lo hi sl Q I rx hs pl pu h
  obtain ⟨a, xs, rfl, hx, q⟩ := h
  cases rx
  obtain ⟨its, r, ht, hz⟩ := I.list hx
  have hlen := r.length
  refine ⟨"list", _, slot_list_getitem.lookup, ht.isList.typeIs, ?_⟩
  refine wpAny_getItem_list_slice ht.isList hs pl pu .none (by simp) ?_ (by rw [List.size_toArray] <;> omega)
  rw [slicePick_cut, ← hlen]
  refine ⟨.ref s.heap.objs.size, _, I.laid (t' := s.toks) (o := .lst (cutV xs lo hi)) (fun b ob q => Heap.get?_push_of_some _ q) (Nat.le_refl _) ?_, rfl, q _ (I.hok.fresh (Nat.le_refl _))⟩
  exact ⟨Nat.le_trans (cutV_length xs lo hi) hz, _, 0, (r.drop (HT.sIx xs.length 0 lo)).take (HT.sIx xs.length xs.length hi - HT.sIx xs.length 0 lo), Heap.get?_push_size _ rfl⟩

/-! ### in, not in: flat items -/
def flatV : V → Bool
  | .non => true
  | .bl _ => true
  | .int _ => true
  | .str _ => true
  | _ => false
/-- == of flat values -/
def eqV : V → V → Bool
  | .non, .non => true
  | .bl a, .bl b => a == b
  | .bl a, .int b => (if a then 1 else 0) == b
  | .int a, .bl b => a == (if b then 1 else 0)
  | .int a, .int b => a == b
  | .str a, .str b => a == b
  | _, _ => false
/-- the items' answers, read off the values (a value's own answer does not lean on its token) -/
def eqU (x : V) (u : Value) : Bool := match u with
  | .none => eqV .non x
  | .bool b => eqV (.bl b) x
  | .int i _ => eqV (.int i) x
  | .str z _ => eqV (.str z) x
  | _ => false
def inV (x : V) (xs : List V) : Bool := xs.any fun y => eqV y x
/-- x in a list or tuple of flat items -/
def rIn (K : PySem.W.Frag) (neg : Bool) : R2 := fun x y H Q => ∃ p xs, y = .ref p ∧ (SqL K H p xs ∨ SqT K H p xs) ∧ flatV x = true ∧ xs.all flatV = true ∧ Q (.bl (if neg then !inV x xs else inV x xs)) H
/-! ### len, list(x), tuple(x) of any list or tuple that is read -/
theorem call_list_of : CallR X (.type "list") (fun xs H Q => ∃ p ys, xs = [.ref p] ∧ (SqL X.K H p ys ∨ SqT X.K H p ys) ∧ ∀ l, H l = none → Q (.ref l) (upd H l (.lst ys))) := by
  intro pins s σ H xs us Q I r h
  obtain ⟨p, ys, rfl, hq, q⟩ := h
  obtain ⟨u, rfl, rx⟩ := vals1 r
  cases rx
  have fin : ∀ (its : List Value), Vals ys its → ys.length ≤ sizeLine → ∀ (h' : Heap) (c' : Nat), (∀ b o', s.heap.get? b = some o' → h'.get? b = some o') →
      h'.get? s.heap.objs.size = some { cls := .type "list", dict := none, data := .seq its.toArray c', slots := #[] } → EP X pins σ Q (.ref s.heap.objs.size) { s with heap := h' } := fun its r' hz h' c' kp e =>
    ⟨.ref s.heap.objs.size, _, I.laid (t' := s.toks) kp (Nat.le_refl _) (show ObjOk X.prog X.w _ h' _ (.lst ys) from ⟨hz, its, c', r', e⟩), rfl, q _ (I.hok.fresh (Nat.le_refl _))⟩
  rcases hq with hq | hq
  · obtain ⟨its, r', pl, hz⟩ := I.list hq
    have hlen := r'.length
    obtain ⟨o, ho, hc, n, hd⟩ := pl.isList
    exact call_list_seq p (.inl rfl) ho hc hd (fun h' c' kp e => fin its r' hz h' c' kp e) (by simp only [List.size_toArray] <;> omega)
  · obtain ⟨its, r', pl, hz⟩ := I.tuple hq
    have hlen := r'.length
    obtain ⟨o, ho, hc, n, hd⟩ := pl
    exact call_list_seq p (.inr rfl) ho hc hd (fun h' c' kp e => fin its r' hz h' c' kp e) (by simp only [List.size_toArray] <;> omega)
/-! ### the call of a builtin's method: o.m(..) -/
/-- the value is of that builtin type -/
def tyV (K : PySem.W.Frag) (T : String) (x : V) (H : Hp) : Prop := match x with
  | .str _ => T = "str"
  | .int _ => T = "int"
  | .ref p => (T = "list" ∧ ∃ xs, SqL K H p xs) ∨ (T = "tuple" ∧ ∃ o, K.lookup p = some o ∧ o.cls = .type "tuple" ∧ o.dict = none) ∨
      (T = "dict" ∧ ((∃ kvs, H p = some (.dK kvs)) ∨ ∃ kvs, H p = some (.dT kvs))) ∨ (T = "set" ∧ ∃ S n, H p = some (.set S n))
  | _ => False
theorem tyV_is {pins : List (Addr × Obj)} {σ : St} {H : Hp} {s : Shared} {T : String} {x : V} {v : Value} (I : Inv X pins σ H s) (r : RelV x v) (ty : tyV X.K T x H) :
    s.TypeIs v T ∧ ∀ a, v = .ref a → ∃ ob, s.heap.get? a = some ob ∧ ob.dict = none := by
  cases x with
  | str z =>
    obtain ⟨t, rfl⟩ := r
    cases (show T = "str" from ty)
    exact ⟨typeIs_str s z t, fun _ e => nomatch e⟩
  | int i =>
    obtain ⟨t, rfl⟩ := r
    cases (show T = "int" from ty)
    exact ⟨typeIs_int s i t, fun _ e => nomatch e⟩
  | ref p =>
    cases r
    rcases ty with ⟨rfl, xs, hq⟩ | ⟨rfl, o, hk, hc, hd⟩ | ⟨rfl, hk⟩ | ⟨rfl, S, n, hk⟩
    · obtain ⟨its, _, pl, _⟩ := I.list hq
      refine ⟨pl.isList.typeIs, fun a e => ?_⟩
      cases e
      obtain ⟨o, n, e, c, hd, _⟩ := pl
      exact ⟨o, e, hd⟩
    · refine ⟨⟨o, I.kIn p o hk, hc⟩, fun a e => ?_⟩
      cases e
      exact ⟨o, I.kIn _ o hk, hd⟩
    · have z : ∃ o, s.heap.get? p = some o ∧ o.ExactDict := by
        rcases hk with ⟨kvs, hk⟩ | ⟨kvs, hk⟩
        · obtain ⟨_, _, _, _, o, _, _, e, ex, _⟩ := I.hok p _ hk
          exact ⟨o, e, ex⟩
        · obtain ⟨_, _, _, _, o, _, _, e, ex, _⟩ := I.hok p _ hk
          exact ⟨o, e, ex⟩
      obtain ⟨o, e, ex⟩ := z
      refine ⟨⟨o, e, ex.1⟩, fun a e2 => ?_⟩
      cases e2
      exact ⟨o, e, ex.2.1⟩
    · obtain ⟨o, _, _, _, e, ex, _⟩ := I.hok p _ hk
      refine ⟨⟨o, e, ex.1⟩, fun a e2 => ?_⟩
      cases e2
      exact ⟨o, e, ex.2.1⟩
  | _ => exact False.elim ty
def tBM0 (K : PySem.W.Frag) (T : String) (r : V → List V → Hp → VK → Prop) (to : TE) : TE := fun σ H Q => to σ H fun x H1 => tyV K T x H1 ∧ r x [] H1 Q
def tBM (K : PySem.W.Frag) (T : String) (r : V → List V → Hp → VK → Prop) (to : TE) (t : TA) : TE := fun σ H Q => to σ H fun x H1 => tyV K T x H1 ∧ t σ H1 fun xs H2 => r x xs H2 Q
variable {o e : Expr} {es : List Expr} {to : TE} {t : TA} {name : Str} {apos cpos : Pos} {T id : String} {r : V → List V → Hp → VK → Prop}
theorem pe_bm0 (pa : PlainAttrs T) (slot : Slot T name id) (hty : typeOf (.builtin id) = pure (.type "method_descriptor")) (hm : MtR X id r) (ho : PE X o to)
    (hbase : attributeBase o name X.env (eval o X.env) = eval o X.env := by rfl) (hline : (apos.endLine == cpos.line) = true := by rfl) : PE X (.Call (.Attribute o name apos) [] [] cpos) (tBM0 X.K T r to) := by
  intro pins s σ H Q I h
  refine wpAny_Call_method0_late hbase hline (thn (ho pins s σ H _ I h) fun v s1 ⟨x, H1, I1, r1, ty, q1⟩ => ?_)
  obtain ⟨h1, h2⟩ := tyV_is I1 r1 ty
  exact ⟨T, id, pa, slot, hty, h1, h2, Calls.callWith_builtin rfl (PySem.evalArgs_none (hm pins s1 σ H1 x [] v [] Q I1 r1 .nil q1))⟩
theorem pe_bm (pa : PlainAttrs T) (slot : Slot T name id) (hty : typeOf (.builtin id) = pure (.type "method_descriptor")) (hm : MtR X id r) (ho : PE X o to) (ha : PA X (e :: es) t)
    (hbase : attributeBase o name X.env (eval o X.env) = eval o X.env := by rfl)
    (hfew : ((backTo cpos (starEach (e :: es) X.env)).all (fun x => !x.1) && (backToKw cpos (keywordEach [] X.env)).all (fun x => x.1.isSome)
      && decide ((e :: es).length + ([] : List Keyword).length + (if ([] : List Keyword).isEmpty then 0 else 1) < 30)) = true := by rfl)
    (hline : (apos.endLine == cpos.line) = true := by rfl) (hs : starEach (e :: es) X.env = (false, eval e X.env) :: starEach es X.env := by rfl) (hplain : (backTo cpos (starEach es X.env)).any (·.1) = false := by rfl) :
    PE X (.Call (.Attribute o name apos) (e :: es) [] cpos) (tBM X.K T r to t) := by
  intro pins s σ H Q I h
  refine wpAny_Call_method_late hbase hfew hline rfl (thn (ho pins s σ H _ I h) fun v s1 ⟨x, H1, I1, r1, ty, q1⟩ => ?_)
  obtain ⟨h1, h2⟩ := tyV_is I1 r1 ty
  refine ⟨T, id, pa, slot, hty, h1, h2, ?_⟩
  have hA := ha cpos pins s1 σ H1 _ I1 q1
  rw [hs] at hA ⊢
  refine Calls.callWith_builtin (by show (false || (backTo cpos (starEach es X.env)).any (·.1)) = false; rw [hplain] <;> rfl) (Calls.evalArgs_plain ?_)
  exact thn hA fun us s2 ⟨vs, H2, I2, r2, q2⟩ => hm pins s2 σ H2 x vs v us Q I2 r1 r2 q2
/- xs.append(e), list.index on a module's tuple .. are MtR facts of 06m -/
end
end L2

namespace L2
open PySem PySem.Spec PyProof.Rows

def MtM (X : Cx) (id : String) (r : V → List V → Hp → VK → Prop) : Prop :=
  ∀ (pins : List (Addr × Obj)) (s : Shared) (σ : St) (H : Hp) (x : V) (xs : List V) (v : Value) (us : List Value) (Q : VK), Inv X pins σ H s → RelV x v → Vals xs us → r x xs H Q →
    wpAny (model X.prog X.w) X.A (call (.builtin id) (v :: us)) (EP X pins σ Q) X.xe s

/-! ### lists of values -/
theorem Vals.one : ∀ {x : V} {us : List Value}, Vals [x] us → ∃ u, us = [u] ∧ RelV x u
  | _, _, .cons r .nil => ⟨_, rfl, r⟩
theorem Vals.zero : ∀ {us : List Value}, Vals [] us → us = []
  | _, .nil => rfl
theorem Vals.dropLast {xs : List V} {us : List Value} (h : Vals xs us) : Vals xs.dropLast us.dropLast := by
  induction h with
  | nil => exact .nil
  | cons r t ih =>
    cases t with
    | nil => exact .nil
    | cons q t' => exact .cons r ih
theorem Vals.rep {xs : List V} {us : List Value} (h : Vals xs us) : ∀ k : Nat, Vals (List.replicate k xs).flatten (List.replicate k us).flatten
  | 0 => .nil
  | k + 1 => by
    rw [List.replicate_succ, List.replicate_succ, List.flatten_cons, List.flatten_cons]
    exact Vals.append h (Vals.rep h k)
theorem erase_last {α : Type} (l : List α) : l.eraseIdx (l.length - 1) = l.dropLast := by
  induction l with
  | nil => rfl
  | cons a r ih =>
    cases r with
    | nil => rfl
    | cons b r =>
      have e : (a :: b :: r).length - 1 = ((b :: r).length - 1) + 1 := by
        have h1 : (a :: b :: r).length = r.length + 2 := rfl
        have h2 : (b :: r).length = r.length + 1 := rfl
        omega
      rw [e, List.eraseIdx_cons_succ, ih]
      all_goals rfl
theorem foldl_rep (its : List Value) : ∀ (k : Nat) (acc : List Value),
    List.foldl (fun x1 x2 => x1 ++ x2) acc.toArray (List.replicate k its.toArray) = (acc ++ (List.replicate k its).flatten).toArray
  | 0, acc => by simp
  | k + 1, acc => by
    have e : acc.toArray ++ its.toArray = (acc ++ its).toArray := by simp
    have e2 : (acc ++ its) ++ (List.replicate k its).flatten = acc ++ (List.replicate (k + 1) its).flatten := by
      rw [List.replicate_succ, List.flatten_cons, List.append_assoc]
    rw [← e2, ← foldl_rep its k (acc ++ its), ← e, List.replicate_succ, List.foldl_cons]

section
variable {X : Cx} {pins : List (Addr × Obj)} {σ : St} {H : Hp} {s : Shared} {l b : Addr} {xs ys zs : List V}

/-! ### the two steps: a tracked list is rewritten, a new list is laid -/
theorem Inv.lset {its its' : List Value} {n : Nat} {f : Array Value → Array Value} {t' : Nat} (I : Inv X pins σ H s) (hH : H l = some (.lst xs))
    (e : s.heap.get? l = some { cls := .type "list", data := .seq its.toArray n }) (hf : f its.toArray = its'.toArray) (hv : Vals ys its') (hz : ys.length ≤ sizeLine) :
    Inv X pins σ (upd H l (.lst ys)) { s with heap := s.heap.update l (Obj.mapSeq f), toks := t' } := by
  have q := PySem.IsL.update e f
  rw [hf] at q
  refine I.write (x := l) (e := l) (by rw [hH]; exact trivial) (.inl rfl) (fun b' u hb hu => (Heap.get?_update_other s.heap (Obj.mapSeq f) (Ne.symm hb)).trans hu) ⟨_, q⟩ ?_
  exact ⟨hz, its', _, hv, q⟩
theorem Inv.lnew {its : List Value} {t' : Nat} (I : Inv X pins σ H s) (hv : Vals ys its) (hz : ys.length ≤ sizeLine) :
    Inv X pins σ (upd H s.heap.objs.size (.lst ys)) { s with heap := s.heap.push { cls := .type "list", data := .seq its.toArray }, toks := t' } :=
  I.laid (fun _ _ q => Heap.get?_push_of_some _ q) (Nat.le_refl _) ⟨hz, its, 0, hv, Heap.get?_push_size _ rfl⟩
theorem Inv.fresh (I : Inv X pins σ H s) : H s.heap.objs.size = none := I.hok.fresh (Nat.le_refl _)
theorem Inv.lstM (I : Inv X pins σ H s) (hH : H l = some (.lst xs)) : xs.length ≤ sizeLine ∧ ∃ (its : List Value) (n : Nat), Vals xs its ∧ xs.length = its.length ∧ s.heap.get? l = some { cls := .type "list", data := .seq its.toArray n } := by
  obtain ⟨z, its, n, r, e⟩ := I.hok l _ hH
  exact ⟨z, its, n, r, r.length, e⟩

theorem notLongL {n : Nat} (h : n ≤ sizeLine) : Builtin.List.listTooLong n = false := by
  unfold Builtin.List.listTooLong
  exact decide_eq_false (by omega)
end

section
variable {X : Cx}

/-! ### methods -/
def rAppend : V → List V → Hp → VK → Prop := fun x vs H Q => ∃ l xs y, x = .ref l ∧ vs = [y] ∧ H l = some (.lst xs) ∧ xs.length < sizeLine ∧ Q .non (upd H l (.lst (xs ++ [y])))
theorem mt_append : MtM X "list.append" rAppend := by
  intro pins s σ H x vs v us Q I rx rv h
  obtain ⟨l, xs, y, rfl, rfl, hH, hz, q⟩ := h
  cases rx
  obtain ⟨u, rfl, ru⟩ := rv.one
  obtain ⟨z, its, n, r, hl, e⟩ := I.lstM hH
  refine call_meets F.slot_list_append ⟨_, e, rfl⟩ F.entry_list_append (F.args_list_append_2 _ _) (PySem.list_append l its.toArray n u (by rw [List.size_toArray]; omega)) ⟨e, ?_⟩
  refine ⟨.non, _, I.lset (its' := its ++ [u]) hH e (by simp) (r.append (.cons ru .nil)) ?_, rfl, q⟩
  rw [List.length_append, List.length_singleton]
  omega

def rExtend : V → List V → Hp → VK → Prop := fun x vs H Q => ∃ l b xs zs, x = .ref l ∧ vs = [.ref b] ∧ H l = some (.lst xs) ∧ H b = some (.lst zs) ∧ xs.length + zs.length ≤ sizeLine ∧ Q .non (upd H l (.lst (xs ++ zs)))
def rPop : V → List V → Hp → VK → Prop := fun x vs H Q => ∃ l xs y, x = .ref l ∧ vs = [] ∧ H l = some (.lst xs) ∧ xs[xs.length - 1]? = some y ∧ Q y (upd H l (.lst xs.dropLast))
theorem mt_pop : MtM X "list.pop" rPop := by
  intro pins s σ H x vs v us Q I rx rv h
  obtain ⟨l, xs, y, rfl, rfl, hH, hy, q⟩ := h
  cases rx
  have hus := rv.zero
  subst hus
  obtain ⟨z, its, n, r, hl, e⟩ := I.lstM hH
  obtain ⟨u, hu, ru⟩ := r.get hy
  have hy' : its.toArray[its.toArray.size - 1]? = some u := by
    show its.toArray[its.length - 1]? = some u
    rw [← Array.getElem?_toList, ← hl]
    exact hu
  refine call_meets F.slot_list_pop ⟨_, e, rfl⟩ F.entry_list_pop (F.args_list_pop_1 _) (MeetsSeq.list_pop_last l its.toArray n u hy' (by rw [List.size_toArray]; omega)) ⟨e, ?_⟩
  refine ⟨y, _, I.lset (its' := its.dropLast) hH e ?_ r.dropLast ?_, ru, q⟩
  · show its.toArray.eraseIdxIfInBounds (its.toArray.size - 1) = its.dropLast.toArray
    rw [List.size_toArray, List.eraseIdxIfInBounds_toArray, erase_last]
  · rw [List.length_dropLast]
    omega

def rPopAt : V → List V → Hp → VK → Prop := fun x vs H Q => ∃ l xs i k y, x = .ref l ∧ vs = [.int i] ∧ H l = some (.lst xs) ∧ -(2 ^ 63) ≤ i ∧ i < 2 ^ 63 ∧ seqIndex? i xs.length = some k ∧ xs[k]? = some y ∧ Q y (upd H l (.lst (xs.eraseIdx k)))
def rReverse : V → List V → Hp → VK → Prop := fun x vs H Q => ∃ l xs, x = .ref l ∧ vs = [] ∧ H l = some (.lst xs) ∧ Q .non (upd H l (.lst xs.reverse))
def rClear : V → List V → Hp → VK → Prop := fun x vs H Q => ∃ l xs, x = .ref l ∧ vs = [] ∧ H l = some (.lst xs) ∧ Q .non (upd H l (.lst []))
/-! ### list + list, list += list, list * int -/
def rCat : R2 := fun x y H Q => ∃ l b xs zs, x = .ref l ∧ y = .ref b ∧ H l = some (.lst xs) ∧ H b = some (.lst zs) ∧ xs.length + zs.length ≤ sizeLine ∧ ∀ p, H p = none → Q (.ref p) (upd H p (.lst (xs ++ zs)))
theorem op_cat : OpR X (binaryOp .Add) rCat := by
  intro pins s σ H x y v u Q I rx ry h
  obtain ⟨l, b, xs, zs, rfl, rfl, hH, hB, hz, q⟩ := h
  cases rx
  cases ry
  obtain ⟨z, its, n, r, hl, e⟩ := I.lstM hH
  obtain ⟨z2, its2, n2, r2, hl2, e2⟩ := I.lstM hB
  refine PySem.P.add_list e e2 ?_ (by rw [List.size_toArray, List.size_toArray]; omega)
  have ea : its.toArray ++ its2.toArray = (its ++ its2).toArray := by simp
  rw [ea]
  exact ⟨.ref _, _, I.lnew (t' := s.toks) (r.append r2) (by rw [List.length_append]; omega), rfl, q _ I.fresh⟩
/-- a list times an int (a negative one is nothing) -/
def rRep : R2 := fun x y H Q => ∃ l k xs, x = .ref l ∧ y = .int k ∧ H l = some (.lst xs) ∧ -(2 ^ 63) ≤ k ∧ k < 2 ^ 63 ∧ xs.length * k.toNat ≤ sizeLine ∧
  ∀ p, H p = none → Q (.ref p) (upd H p (.lst (List.replicate k.toNat xs).flatten))
theorem len_rep {α : Type} (xs : List α) (k : Nat) : (List.replicate k xs).flatten.length = k * xs.length := by
  induction k with
  | zero => simp
  | succ k ih => rw [List.replicate_succ, List.flatten_cons, List.length_append, ih, Nat.succ_mul, Nat.add_comm]
theorem op_rep : OpR X (binaryOp .Mult) rRep := by
  intro pins s σ H x y v u Q I rx ry h
  obtain ⟨l, k, xs, rfl, rfl, hH, h1, h2, hz, q⟩ := h
  cases rx
  obtain ⟨t, rfl⟩ := ry
  obtain ⟨z, its, n, r, hl, e⟩ := I.lstM hH
  have hlen : its.toArray.size * k.toNat ≤ sizeLine := by rw [List.size_toArray, ← hl]; exact hz
  have hcap : ¬ its.toArray.size * k.toNat > (2 ^ 63 - 1) / 8 := by
    have : (sizeLine : Nat) ≤ (2 ^ 63 - 1) / 8 := by decide
    omega
  have hfit : ¬ (!Builtin.List.listFitsIndex k) = true := by
    rw [fitsIndex_both h1 h2]
    exact Bool.false_ne_true
  have hlong : ¬ Builtin.List.listTooLong (its.toArray.size * k.toNat) = true := by
    rw [notLongL hlen]
    exact Bool.false_ne_true
  have hnew : List.foldl (fun x1 x2 => x1 ++ x2) #[] (List.replicate (if its.toArray.isEmpty = true then 0 else k.toNat) its.toArray) = (List.replicate k.toNat its).flatten.toArray := by
    have f0 : ∀ m : Nat, List.foldl (fun x1 x2 => x1 ++ x2) #[] (List.replicate m its.toArray) = (List.replicate m its).flatten.toArray := fun m => by
      have := foldl_rep its m []
      rw [List.nil_append] at this
      exact this
    rw [f0]
    cases its with
    | nil => simp
    | cons a r' => rw [if_neg (by simp)]
  refine wpAny_binaryOp_repeat_ref (T := "list") (U := "int") (by decide) ⟨_, e, rfl⟩ (fun s' => typeIs_int s' k t) noFill_list_mul F.fills_int_mul F.slot_int_rmul repeat_list F.slot_int_index.lookup
    (call_meets F.slot_int_rmul (typeIs_int s k t) F.entry_int_rmul (F.args_int_rmul_2 _ _) (int___rmul___int_list k t l its.toArray n)
      ⟨e, rfl, ⟨_, e, rfl⟩, call_meets F.slot_list_mul ⟨_, e, rfl⟩ F.entry_list_mul (F.args_list_mul_2 _ _) (AutoListH.list___mul___list_int_3 l its.toArray n k t hfit hcap hlong) ⟨e, ?_⟩⟩)
  rw [hnew]
  exact ⟨.ref _, _, I.lnew (t' := s.toks) (r.rep k.toNat) (by rw [len_rep, Nat.mul_comm]; exact hz), rfl, q _ I.fresh⟩

/-! ### del xs[i] -/
end

/-! ### xs[a:b] = ys -/
section
variable {prog : Program} {w : World} {A : Around} {E : Value → Shared → Prop} {s : Shared}
end

section
variable {X : Cx}
end
end L2

namespace Att
open PySem PySem.W PySem.Calls PyProof.Rows

/-! ### the script -/
theorem ints_of_wellAll {P : Params} {h : Heap} : ∀ (ns : List Int) (vs : List Value), WellAll P h vs (ns.map WData.int) → IntsAre vs ns := by
  intro ns
  induction ns with
  | nil =>
    intro vs w
    rw [List.map_nil] at w
    cases w
    exact .nil
  | cons n ns ih =>
    intro vs w
    rw [List.map_cons] at w
    cases w with
    | cons a b =>
      cases a
      exact .cons _ _ (ih _ b)

theorem script_of {l : OpenLaw} {n : Nat} (hn : l.most = some n) {P : Params} {h : Heap} {args : List WData} {vals : List Value}
    (hpre : l.row.toRowW.claim.pre args = true) (hwl : WellAll P h vals args) :
    ∃ a vs ns, vals = [Value.ref a] ∧ args = [WData.list (ns.map WData.int)] ∧ h.get? a = some { cls := .type "list", data := .seq vs.toArray } ∧ IntsAre vs ns ∧ ns.length ≤ n := by
  have hsh : WShape.hasAll [] args [.list .int] = true := (pre_splitW hpre).1
  have hc : l.pre.holds [] { args := args } = true := (pre_splitW hpre).2
  obtain ⟨d, r, rfl, h1, h2⟩ := hasAllW_cons hsh
  obtain rfl := hasAllW_nil h2
  obtain ⟨xs, rfl, h3⟩ := hasW_list h1
  obtain ⟨ns, rfl⟩ := items_int h3
  have hlen : ns.length ≤ n := by
    unfold OpenLaw.pre at hc
    have h4 : (WTm.not (.lt (.lit (.int (n : Int))) (.len (.arg 0)))).holds [] { args := [.list (ns.map .int)] } = true := by
      have h4 := (holds_andW hc).1
      rw [hn] at h4
      exact h4
    have h5 := condW_of h4 (w_not (w_lt w_lit (w_len_list (w_arg rfl))))
    rw [List.length_map] at h5
    refine Nat.le_of_not_lt fun q => ?_
    have q' : (n : Int) < ((ns.length : Nat) : Int) := by omega
    first
      | (rw [decide_eq_true q'] at h5; exact absurd h5 (by decide))
      | (simp at h5; omega)
  cases hwl with
  | cons w1 w2 =>
    cases w2
    cases w1 with
    | list ho hall => exact ⟨_, _, ns, rfl, rfl, ho, ints_of_wellAll ns _ hall, hlen⟩

theorem post_true (l : OpenLaw) (args : List WData) : l.row.toRowW.claim.post args (.bool true) args = true :=
  postW_of (r := l.row.toRowW) (X := (true == true))
    (show WShape.has [] (.bool true) .bool = true by first | rfl | decide | simp [WShape.has, WShape.arms, WShape.armsAll])
    (show (WTm.eq .res (.lit (.bool true))).value [] { args := args, res := some (.bool true), after := args } = some (.bool (true == true)) from w_eq_bool (w_res rfl) w_lit) rfl

/-! ### the attachment: holds_open's last premise (the goal 'hc' behind k_head) from a wpAny of the law's body -/
/-- the same from a codeAny of the CALL (for a layer whose function contracts speak of calls) -/
theorem attach_call {l : OpenLaw} {n : Nat} {q : Program} {loose : List Str} {XP : (Str → Option Value) → Heap → Prop} {YP : World → Heap → Prop} {d : DefRec}
    (hn : l.most = some n) (hdf : d.params.defaults = [])
    (call : ∀ (w : World) (s₀ s₁ : Shared) (mg mb : Str → Option Value) (fa : Addr) (o : Obj) (pm cd doc : Value) (a : Addr) (vs : List Value) (ns : List Int),
      Ground q loose [] XP w s₀ mg mb s₁.heap → YP w s₁.heap →
      s₁.heap.get? fa = some o → o.data = .func (docDef d.name d.params d.body d.scope pm cd doc) → s₁.heap.CodeRec cd d.name → mg d.name = some (.ref fa) →
      s₁.heap.get? a = some { cls := .type "list", data := .seq vs.toArray } → IntsAre vs ns → ns.length ≤ n → s₁.gens = #[] →
      codeAny (model l.prog w) callerA (.call (.ref fa) ⟨[.ref a], []⟩) (fun r s' => r = .ok (.ret (.bool true)) ∧ OldK s₁.heap s'.heap ∧ s'.os = s₁.os ∧ AllBare s'.gens) s₁) :
    WalkO q loose XP YP l.row.toRowW d [] (fun f vs => PySem.call f vs) := by
  intro w s₀ s₁ mg mb G Y fa o pm cd doc dV kV ho hd hcd hD hmg hg args vals as hpre hlay hrd hwl hlo
  obtain rfl : dV = .none := Dflts.none hD hdf
  obtain rfl : kV = .none := Dflts.noKw hD
  obtain ⟨a, vs, ns, rfl, rfl, hobj, hints, hlen⟩ := script_of hn hpre hwl
  refine enter_call (codeAny_mono (call w s₀ s₁ mg mb fa o pm cd doc a vs ns G Y ho (fd_plain hd) hcd hmg hobj hints hlen hg) fun r s' hq => ?_)
  obtain ⟨rfl, h2, h3, h4⟩ := hq
  exact ⟨.inl ⟨.bool true, .bool true, [], rfl, fun _ => rfl, .bool true, post_true l _, fun _ => ⟨List.Pairwise.nil, fun _ hm => (nomatch hm)⟩⟩, h2, h3, h4⟩

/-! ### rules over ANY heap (no ledger) from facts about the written part K: the library's own take a ledger (News) for what they write -/
section
variable {prog : Program} {w : World} {A : Around} {E : Value → Shared → Prop} {s : Shared} {K : Frag}

/-! the whole heap as the ledger: makes every rule that writes through a ledger a rule over any heap -/
def noObjs (h : Heap) : Heap := { h with objs := #[] }
def ledger (h : Heap) (L d : Addr) : List (Addr × Obj) := (List.range h.objs.size).filterMap fun a => if a = L ∨ a = d then none else (h.get? a).map fun o => (a, o)
end
end Att

namespace L2
open PySem PySem.Spec PyProof.Rows

theorem vals_ints : ∀ {vs : List Value} {ns : List Int}, IntsAre vs ns → Vals (ns.map V.int) vs
  | _, _, .nil => .nil
  | _, _, .cons n t h => .cons ⟨t, rfl⟩ (vals_ints h)

/-- nothing is tracked but the script, known to the object (or it is an object of the module) -/
def Only (H : Hp) : Prop := ∀ b, H b = none ∨ ∃ o xs, H b = some (.frz o (.lst xs))

/-- THE HEAD: the law's promise, at the heap behind the top. F, the promise of the law's def, may use that base is part of the heap (so K.In base, base.Ns mainGlobals mg stand in Mod) -/
theorem law_call {P : Program} {w : World} {K : PySem.W.Frag} {mg mb : Str → Option Value} {CX : CXT} {k : Nat} {fa a : Addr} {fd : FuncData} {x : Str} {sp : Sp} {s₁ : Shared} {vs : List Value} {ns : List Int}
    (KX : K.In s₁.heap) (hns : s₁.heap.Ns mainGlobals mg) (hb : s₁.heap.Ns builtinsNs mb) (hbb : ∀ x : Str, x ≠ "__name__" → mb x = bootBuiltins x) (hlim : s₁.heap.NoLimit) (hg : s₁.gens = #[])
    (ha : s₁.heap.get? a = some { cls := .type "list", data := .seq vs.toArray }) (hi : IntsAre vs ns) (hl : ns.length ≤ sizeLine) (hr : Room k callerA)
    (F : ∀ base : Heap, K.In base → base.Ns mainGlobals mg → FnOk P w K mg base CX k fa fd [x] sp) (hbind : ∀ (s : Shared) (u : Value), BindsTo s fd ⟨[u], []⟩ [(x, u)])
    (hsp : ∀ H : Hp, Only H → SqL K H a (ns.map V.int) → sp [.ref a] H (fun v _ => v = .bl true) fun _ _ _ => False)
    (hCX : ∀ H e s', CX [] H s₁ (fun _ _ _ => False) e s' → False) :
    codeAny (model P w) callerA (.call (.ref fa) ⟨[.ref a], []⟩) (fun r s' => r = .ok (.ret (.bool true)) ∧ OldK s₁.heap s'.heap ∧ s'.os = s₁.os ∧ AllBare s'.gens) s₁ := by
  have rv := vals_ints hi
  have lenV := hi.length
  -- from an abstract heap in which nothing but the script may be tracked
  have core : ∀ H : Hp, Only H → SqL K H a (ns.map V.int) → HOk P w H s₁.heap → (∀ b, H b ≠ none → b = a) → (H a ≠ none → K.lookup a = none) →
      codeAny (model P w) callerA (.call (.ref fa) ⟨[.ref a], []⟩) (fun r s' => r = .ok (.ret (.bool true)) ∧ OldK s₁.heap s'.heap ∧ s'.os = s₁.os ∧ AllBare s'.gens) s₁ := by
    intro H hO hS hok hA hK
    have base_of : ∀ {b : Addr} {o : Obj}, s₁.heap.get? b = some o → H b = none → (hidT s₁.heap H).get? b = some o := fun e n => hidT_get e n
    have noA : ∀ {b : Addr} {o : Obj} {es : Array DictEntry} {ep : Nat}, s₁.heap.get? b = some o → o.data = .dict es ep → H b = none := fun {b o es ep} e d => by
      cases q : H b with
      | none => rfl
      | some u =>
        have e' : b = a := hA b (by rw [q]; simp)
        subst e'
        rw [ha] at e; cases e
        have d' : Data.seq vs.toArray _ = Data.dict es ep := d
        cases d'
    have nsK : ∀ {b : Addr} {m : Str → Option Value}, s₁.heap.Ns b m → (hidT s₁.heap H).Ns b m := fun {b m} ⟨o, es, ep, e, d, r⟩ => ⟨o, es, ep, base_of e (noA e d), d, r⟩
    have hKb : K.In (hidT s₁.heap H) := fun b o e => base_of (KX b o e) (by
      cases q : H b with
      | none => rfl
      | some u =>
        have e' : b = a := hA b (by rw [q]; simp)
        subst e'
        rw [hK (by rw [q]; simp)] at e; cases e)
    have hM : Mod K mg (hidT s₁.heap H) := ⟨hKb, nsK hns, ⟨mb, nsK hb, hbb⟩, let ⟨mc, h1, h2⟩ := hlim; ⟨mc, nsK h1, h2⟩⟩
    have e0 : Env0 P w K mg (hidT s₁.heap H) callerA [] s₁ H := ⟨rfl, hM, fun b o e => of_hidT e, Nat.le_of_eq (hidT_size _ _), trivial, fun b hb => absurd (show b ∈ ([] : List Addr) from hb) (by simp), hok, .of_eq hg⟩
    refine codeAny_mono ((F _ hKb (nsK hns)).run callerA [] s₁ H ⟨[.ref a], []⟩ [.ref a] [.ref a] _ _ hr e0 (hbind s₁ (.ref a)) (.cons rfl .nil) (hsp H hO hS)) fun r s' h => ?_
    cases r with
    | error e => exact (hCX H e s' h).elim
    | ok fl =>
      cases fl with
      | next => exact False.elim h
      | brk => exact False.elim h
      | cont => exact False.elim h
      | ret u =>
        obtain ⟨v, H', os, bare, un, hok', r', q⟩ := h
        have q' : v = .bl true := q
        subst q'
        obtain rfl : u = Value.bool true := r'
        refine ⟨rfl, OldK.of_keep fun b o e => ?_, os, bare⟩
        cases q : H b with
        | none => exact un.keep b o e q (by intro z; exact absurd (show b ∈ ([] : List Addr) from z) (by simp)) (by simp)
        | some u =>
          rcases hO b with z | ⟨ob, xs, z⟩
          · rw [q] at z; cases z
          · have z2 := un.frzs b ob _ z
            obtain ⟨e1, _⟩ := hok b _ z
            obtain ⟨e2, _⟩ := hok' b _ z2
            rw [e] at e1; cases e1
            exact e2
  cases hk : K.lookup a with
  | some o =>
    -- the script is one of the module's own objects
    have e := KX a o hk
    rw [ha] at e
    cases e
    refine core (fun _ => none) (fun _ => .inl rfl) (.inr ⟨_, vs.toArray, _, hk, rfl, rfl, rfl, by rw [List.size_toArray, lenV]; exact hl, by simpa using rv⟩) (fun b u z => by have z' : (none : Option HO) = some u := z; cases z') (fun b z => absurd rfl z) fun z => absurd rfl z
  | none =>
    refine core (fun b => if b = a then some (.frz { cls := .type "list", data := .seq vs.toArray } (.lst (ns.map V.int))) else none) (fun b => ?_) (.inl (.inr ⟨{ cls := .type "list", data := .seq vs.toArray }, if_pos rfl⟩)) (fun b u z => ?_) (fun b z => ?_) fun _ => hk
    · by_cases hb : b = a
      · exact .inr ⟨_, _, if_pos hb⟩
      · exact .inl (if_neg hb)
    · by_cases hb : b = a
      · have z' := (if_pos hb).symm.trans z
        cases z'
        subst hb
        exact ⟨ha, by rw [List.length_map]; exact hl, vs, _, rv, ha⟩
      · have z' := (if_neg hb).symm.trans z
        cases z'
    · by_cases hb : b = a
      · exact hb
      · exact absurd (if_neg hb) z
end L2

namespace L2
open PySem PySem.Spec PyProof.Rows

abbrev KOf {K : PySem.W.Frag} {h : Heap} (_ : K.In h) : PySem.W.Frag := K

/-- the goal that k_head leaves (case hc), from the law's promise. F gives the function object fd (K's own) once, then the promise over every base -/
theorem walk_of {l : PySem.W.OpenLaw} {n k : Nat} {q : Program} {loose : List Str} {XP : (Str → Option Value) → Heap → Prop} {YP : World → Heap → Prop} {d : DefRec} {K : Params → PySem.W.Frag} {CX : World → CXT} {sp : World → Sp} {x : Str}
    (hn : l.most = some n) (hn2 : n ≤ sizeLine) (hdf : d.params.defaults = []) (hr : Room k callerA)
    (hY : ∀ (w : World) (h : Heap), YP w h → (K w.params).In h)
    (F : ∀ (w : World) (mg : Str → Option Value) (fa : Addr) (h : Heap), (K w.params).In h → h.Ns mainGlobals mg → mg d.name = some (.ref fa) →
      ∃ fd : FuncData, (∀ (s : Shared) (u : Value), BindsTo s fd ⟨[u], []⟩ [(x, u)]) ∧
        ∀ base : Heap, (K w.params).In base → base.Ns mainGlobals mg → FnOk l.prog w (K w.params) mg base (CX w) k fa fd [x] (sp w))
    (hsp : ∀ (w : World) (H : Hp) (a : Addr) (ns : List Int), ns.length ≤ n → Only H → SqL (K w.params) H a (ns.map V.int) → sp w [.ref a] H (fun v _ => v = .bl true) fun _ _ _ => False)
    (hCX : ∀ (w : World) (H : Hp) (s : Shared) (e : Value) (s' : Shared), CX w [] H s (fun _ _ _ => False) e s' → False) :
    PySem.W.WalkO q loose XP YP l.row.toRowW d [] (fun f vs => PySem.call f vs) := by
  refine Att.attach_call hn hdf fun w s₀ s₁ mg mb fa o pm cd doc a vs ns G Y ho hd hcd hmg hobj hints hlen hg => ?_
  have KX := hY w _ Y
  obtain ⟨fd, hb, hF⟩ := F w mg fa _ KX G.T.g hmg
  exact law_call KX G.T.g G.T.b G.T.builtins G.T.nolimit hg hobj hints (Nat.le_trans hlen hn2) hr hF hb (fun H hO hS => hsp w H a ns hlen hO hS) fun H e s' => hCX w H s₁ e s'
end L2

/- THE LAST THEOREM (shape; LID, My.* are yours):
   My.Adr: a structure of the addresses that your layer names (classes, functions); My.Txt K t: a structure (Prop) of the equations over K;
   My.txt_mk : {K} {implicit addresses ..} (e1 : nsIn K mainGlobals "law" = some (some (.ref f))) (e2 : K.lookup f = some ⟨oc, od, .func (fnOf "law" "law" params body scope dV kV doc pm an cdv ct), sl⟩) (e3 : codeIn K cdv "law" = true) .. : ∃ t, My.Txt K t

set_option maxRecDepth 100000 in
set_option maxHeartbeats 0 in
theorem PySem.Challenge.cw_LID_holds : PySem.Challenge.rw_LID.Holds := by
  w_on; o_law; k_head; (case hw => w_witness2)
  k_fill
  refine L2.walk_of (l := PySem.Challenge.rw_LID) (n := 63) (k := 40) (x := "script") (CX := fun w => ..) (sp := fun _ => My.sp_law) rfl (by decide) rfl ⟨rfl, by decide, by decide⟩ (fun w h Y => PySem.W.kIn_of Y) ?F ?S ?C
  case F =>
    intro w mg fa h KX G hmg
    have T : ∃ t, My.Txt (L2.KOf KX) t := by
      dsimp only [L2.KOf]                          -- K must stand as «<heap const> w.params» for k_is
      refine' My.txt_mk ?e1 ?e2 ?e3 ..
      (case e1 => PySem.W.k_is)                    -- in the order: a name -> its address -> its object -> its parts
      (case e2 => PySem.W.k_is)
      ..
    obtain ⟨t, T⟩ := T
    have e0 := hmg.symm.trans (PySem.W.mg_of KX G T.law)
    cases e0                                       -- fa is the law's own address
    exact ⟨_, fun s u => .of_eq rfl, fun base kb nb => My.law_fn T kb nb⟩     -- if «.of_eq rfl» comes too early: refine' ⟨_, ?b, fun base kb nb => My.law_fn T kb nb⟩; exact fun s u => .of_eq rfl
  case S => exact fun w H a ns hl hO hS => ..
  case C => exact ..
(the tactic k_is has no namespace: write k_is) -/

/-! SHORT WORDS over the layer: a def of the text, its body, what a loop and a test want. -/
namespace L2
open PySem PySem.Spec PyProof.Rows

/-! ### the text by places -/
/-- the j-th statement of a class's body -/
def inClass (s : Stmt) (j : Nat) : Stmt := match s with
  | .ClassDef _ _ _ body _ _ _ _ _ _ _ => body.getD j (.Pass ⟨0, 0, 0, 0⟩)
  | _ => .Pass ⟨0, 0, 0, 0⟩
def defArgs (s : Stmt) : Arguments := match s with
  | .FunctionDef _ a _ _ _ _ _ _ _ _ => a
  | _ => { posonlyargs := [], args := [], vararg := none, kwonlyargs := [], kw_defaults := [], kwarg := none, defaults := [] }
def defBody (s : Stmt) : List Stmt := match s with
  | .FunctionDef _ _ b _ _ _ _ _ _ _ => b
  | _ => []
def defScope (s : Stmt) : Scope := match s with
  | .FunctionDef _ _ _ _ _ _ sc _ _ _ => sc
  | _ => { kind := .function, names := [], isGenerator := false, isCoroutine := false }

/-! ### no exception leaves a def -/
abbrev CX0 : CXT := fun _ _ _ _ _ _ => False
abbrev E0 : XK := fun _ _ _ => False
theorem pass0 {X : Cx} : Passes CX0 X E0 := fun _ _ _ _ _ _ _ h => h.elim

/-! ### a def (or method) of the text as it stands behind the top -/
structure Fun (K : PySem.W.Frag) (x qual : Str) (st : Stmt) (f : Addr) (fd : FuncData) : Prop where
  ex : ∃ (oc : Value) (od : Option Addr) (kV doc pm : Value) (an : Option Addr) (cdv ct : Value) (osl : Array (Option Value)),
    fd = PySem.W.fnOf x qual (defArgs st) (defBody st) (defScope st) .none kV doc pm an cdv ct ∧ K.lookup f = some ⟨oc, od, .func fd, osl⟩ ∧ PySem.W.codeIn K cdv qual = true
  kp : PySem.W.keepIn K (.ref f) = true
section
variable {P : Program} {w : World} {K : PySem.W.Frag} {mg : Str → Option Value} {base : Heap}
/-- THE RULE for a def: its body as a term of rules, and the reading of that term -/
theorem Fun.ok {x qual : Str} {st : Stmt} {f : Addr} {fd : FuncData} {N ps : List Str} {k : Nat} {sp : Sp} (F : Fun K x qual st f fd) (S : FnScope N ps (defScope st)) (len : ∀ vs H Q E, sp vs H Q E → vs.length = ps.length)
    (hbody : ∀ (cdv : Value) (A : Around) (outer : List Env) (s : Shared) (H : Hp) (vs : List V) (Q : VK) (E : XK), Room k (A.deeper (envOfC qual (defScope st) s.heap.objs.size f cdv)) → sp vs H Q E →
      ∃ t, PSs (cxOf CX0 P w K mg base N qual (defScope st) f cdv A outer s H E).nox (defBody st) t ∧ t { nx := fun _ H' => Q .non H', rt := Q } (start N vs) H) : FnOk P w K mg base CX0 (k + 1) f fd ps sp := by
  obtain ⟨oc, od, kV, doc, pm, an, cdv, ct, osl, rfl, lk, hcd⟩ := F.ex
  refine fn_of lk hcd S len fun A outer s H vs Q E hr hsp => ?_
  obtain ⟨t, h, q⟩ := hbody cdv A outer s H vs Q E hr hsp
  exact ⟨t, h.nox, q⟩
/-- how its arguments bind (no defaults): h is «fun _ _ _ _ _ _ us hl => match us, hl with | [_, _], _ => rfl», one _ a parameter -/
theorem Fun.binds {x qual : Str} {st : Stmt} {f : Addr} {fd : FuncData} {ps : List Str} (F : Fun K x qual st f fd)
    (h : ∀ (kV doc pm : Value) (an : Option Addr) (cdv ct : Value) (us : List Value), us.length = ps.length → bindArgs (PySem.W.fnOf x qual (defArgs st) (defBody st) (defScope st) .none kV doc pm an cdv ct) ⟨us, []⟩ = pure (ps.zip us)) : Binds K fd ps [] := by
  obtain ⟨oc, od, kV, doc, pm, an, cdv, ct, osl, rfl, lk, hcd⟩ := F.ex
  exact .all (h kV doc pm an cdv ct)
theorem fun_mk {x qual : Str} {st : Stmt} {f : Addr} {oc : Value} {od an : Option Addr} {osl : Array (Option Value)} {kV doc pm cdv ct : Value} (l : K.lookup f = some ⟨oc, od, .func (PySem.W.fnOf x qual (defArgs st) (defBody st) (defScope st) .none kV doc pm an cdv ct), osl⟩)
    (c : PySem.W.codeIn K cdv qual = true) (k : PySem.W.keepIn K (.ref f) = true) : Fun K x qual st f (PySem.W.fnOf x qual (defArgs st) (defBody st) (defScope st) .none kV doc pm an cdv ct) := ⟨⟨oc, od, kV, doc, pm, an, cdv, ct, osl, rfl, l, c⟩, k⟩
end
/-! ### expressions in short: the name that stands in the i-th slot -/
section
variable {X : Cx}
theorem pv (i : Nat) {x : Str} {pos : Pos} (hN : X.N[i]? = some x := by rfl) (hv : Vis X.env.scope x := by first | exact Or.inl rfl | exact Or.inr (Or.inl rfl) | exact Or.inr (Or.inr rfl)) (hd : (x == ("__debug__" : Str)) = false := by decide)
    (hcd : (x == ("__classdict__" : Str)) = false := by decide) : PE X (.Name x pos) (tVar i) := pe_var hN hv hd hcd
end

/-! ### tests -/
theorem iteF {A B : Prop} (h : B) : if false = true then A else B := by
  rw [if_neg Bool.false_ne_true]
  exact h
theorem iteT {A B : Prop} (h : A) : if true = true then A else B := by
  rw [if_pos rfl]
  exact h
/-! ### heaps -/
/-- all that was tracked is as it was -/
def Same (H H' : Hp) : Prop := ∀ b o, H b = some o → H' b = some o
theorem Same.refl (H : Hp) : Same H H := fun _ _ h => h
theorem Same.trans {H H1 H2 : Hp} (a : Same H H1) (b : Same H1 H2) : Same H H2 := fun c o h => b c o (a c o h)
theorem Same.free {H H' : Hp} (e : Same H H') {l : Addr} (h : H' l = Option.none) : H l = Option.none := by
  cases q : H l with
  | none => rfl
  | some o =>
    rw [e l o q] at h
    cases h
theorem Same.seq {K : PySem.W.Frag} {H H' : Hp} {a : Addr} {xs : List V} (e : Same H H') (h : SqL K H a xs) : SqL K H' a xs := by
  rcases h with (h | ⟨o, h⟩) | h
  · exact .inl (.inl (e _ _ h))
  · exact .inl (.inr ⟨o, e _ _ h⟩)
  · exact .inr h

end L2

set_option Elab.async false
set_option linter.all false
set_option maxRecDepth 100000
namespace L2
open PySem PySem.Spec PyProof.Rows

/-! ### what a value stands for, read off the abstract heap; equality at any depth -/
def PdAt (K : PySem.W.Frag) (H : Hp) : Nat → PyData → V → Prop
  | 0, d, v => match d with
    | .none => v = .non
    | .bool b => v = .bl b
    | .int i => v = .int i
    | .str x => v = .str x ∧ PyData.strOk x = true
    | _ => False
  | n + 1, d, v => match d with
    | .none => v = .non
    | .bool b => v = .bl b
    | .int i => v = .int i
    | .str x => v = .str x ∧ PyData.strOk x = true
    | .list ds => ∃ a xs, v = .ref a ∧ SqL K H a xs ∧ Paired (PdAt K H n) ds xs
    | .tuple ds => ∃ a xs, v = .ref a ∧ SqT K H a xs ∧ Paired (PdAt K H n) ds xs
    | .dict _ => False
section
variable {X : Cx} {pins : List (Addr × Obj)} {σ : St} {H : Hp} {s : Shared}
theorem pd_reads (I : Inv X pins σ H s) : ∀ (n : Nat) (d : PyData) (v : V) (u : Value), PdAt X.K H n d v → RelV v u → ∃ as, Reads s.heap u d as := by
  intro n
  induction n with
  | zero =>
    intro d v u h r
    cases d with
    | none => cases (show v = .non from h); cases (show u = Value.none from r); exact ⟨_, Reads.none⟩
    | bool b => cases (show v = .bl b from h); cases (show u = Value.bool b from r); exact ⟨_, Reads.bool b⟩
    | int i => cases (show v = .int i from h); obtain ⟨t, rfl⟩ := (show ∃ t, u = Value.int i t from r); exact ⟨_, Reads.int i t⟩
    | str x => cases (show v = .str x ∧ _ from h).1; obtain ⟨t, rfl⟩ := (show ∃ t, u = Value.str x t from r); exact ⟨_, Reads.str x t⟩
    | list _ => exact (show False from h).elim
    | tuple _ => exact (show False from h).elim
    | dict _ => exact (show False from h).elim
  | succ n ih =>
    have all : ∀ (ds : List PyData) (xs : List V) (us : List Value), Paired (PdAt X.K H n) ds xs → Vals xs us → ∃ as, ReadsAll s.heap us ds as := by
      intro ds xs us p
      induction p generalizing us with
      | nil => intro r; cases r; exact ⟨_, ReadsAll.nil⟩
      | cons q _ hi =>
        intro r
        cases r with
        | cons r1 rr =>
          obtain ⟨as, h1⟩ := ih _ _ _ q r1
          obtain ⟨bs, h2⟩ := hi _ rr
          exact ⟨_, ReadsAll.cons h1 h2⟩
    intro d v u h r
    cases d with
    | none => cases (show v = .non from h); cases (show u = Value.none from r); exact ⟨_, Reads.none⟩
    | bool b => cases (show v = .bl b from h); cases (show u = Value.bool b from r); exact ⟨_, Reads.bool b⟩
    | int i => cases (show v = .int i from h); obtain ⟨t, rfl⟩ := (show ∃ t, u = Value.int i t from r); exact ⟨_, Reads.int i t⟩
    | str x => cases (show v = .str x ∧ _ from h).1; obtain ⟨t, rfl⟩ := (show ∃ t, u = Value.str x t from r); exact ⟨_, Reads.str x t⟩
    | list ds =>
      obtain ⟨a, xs, rfl, hq, hp⟩ := (show ∃ a xs, v = .ref a ∧ SqL X.K H a xs ∧ Paired (PdAt X.K H n) ds xs from h)
      cases (show u = Value.ref a from r)
      obtain ⟨its, rv, pl, hz⟩ := I.list hq
      obtain ⟨as, ra⟩ := all _ _ _ hp rv
      obtain ⟨o, ho, hc, k, hd⟩ := pl.isList
      exact ⟨_, reads_list_at ho hc hd (by simpa using ra)⟩
    | tuple ds =>
      obtain ⟨a, xs, rfl, hq, hp⟩ := (show ∃ a xs, v = .ref a ∧ SqT X.K H a xs ∧ Paired (PdAt X.K H n) ds xs from h)
      cases (show u = Value.ref a from r)
      obtain ⟨its, rv, pl, hz⟩ := I.tuple hq
      obtain ⟨as, ra⟩ := all _ _ _ hp rv
      obtain ⟨o, ho, hc, k, hd⟩ := (show s.heap.IsTuple a its.toArray from pl)
      exact ⟨_, reads_tuple_at ho hc hd (by simpa using ra)⟩
    | dict _ => exact (show False from h).elim
end
theorem pd_shape {K : PySem.W.Frag} {H : Hp} : ∀ (n : Nat) (d : PyData) (v : V), PdAt K H n d v → d.canLay0 = true ∧ d.depth ≤ n := by
  intro n
  induction n with
  | zero =>
    intro d v h
    cases d with
    | str x => simp [PyData.canLay0, PyData.depth, (show v = .str x ∧ PyData.strOk x = true from h).2]
    | list _ => exact (show False from h).elim
    | tuple _ => exact (show False from h).elim
    | dict _ => exact (show False from h).elim
    | _ => simp [PyData.canLay0, PyData.depth]
  | succ n ih =>
    have all : ∀ (ds : List PyData) (xs : List V), Paired (PdAt K H n) ds xs → PyData.canLayAll0 ds = true ∧ PyData.depthAll ds ≤ n := by
      intro ds xs p
      induction p with
      | nil => simp [PyData.canLayAll0, PyData.depthAll]
      | cons q _ hi =>
        have h1 := ih _ _ q
        simp only [PyData.canLayAll0, PyData.depthAll, h1.1, hi.1, Bool.and_self, true_and]
        have a1 := h1.2
        have a2 := hi.2
        omega
    intro d v h
    cases d with
    | str x => simp [PyData.canLay0, PyData.depth, (show v = .str x ∧ PyData.strOk x = true from h).2]
    | list ds =>
      obtain ⟨a, xs, rfl, hq, hp⟩ := (show ∃ a xs, v = .ref a ∧ SqL K H a xs ∧ Paired (PdAt K H n) ds xs from h)
      have q := all _ _ hp
      have q2 := q.2
      simp only [PyData.canLay0, PyData.depth, q.1, true_and]
      omega
    | tuple ds =>
      obtain ⟨a, xs, rfl, hq, hp⟩ := (show ∃ a xs, v = .ref a ∧ SqT K H a xs ∧ Paired (PdAt K H n) ds xs from h)
      have q := all _ _ hp
      have q2 := q.2
      simp only [PyData.canLay0, PyData.depth, q.1, true_and]
      omega
    | dict _ => exact (show False from h).elim
    | _ => simp [PyData.canLay0, PyData.depth]
def rEqP (K : PySem.W.Frag) : R2 := fun x y H Q => ∃ d e, PdAt K H 9 d x ∧ PdAt K H 9 e y ∧ Q (.bl (PyData.eqv d e)) H
def rNeP (K : PySem.W.Frag) : R2 := fun x y H Q => ∃ d e, PdAt K H 9 d x ∧ PdAt K H 9 e y ∧ Q (.bl (!PyData.eqv d e)) H
section
variable {X : Cx}
theorem pd_shaped {K : PySem.W.Frag} {H : Hp} {d : PyData} {v : V} (h : PdAt K H 9 d v) : SeqAt.shaped d = true := by
  have q := pd_shape 9 d v h
  unfold SeqAt.shaped
  rw [q.1, Bool.true_and]
  exact decide_eq_true (Nat.le_trans q.2 (by decide))
theorem op_eqP (hu : X.A.units + 64 < cLine) : OpR X (compareOp .Eq) (rEqP X.K) := by
  intro pins s σ H x y v u Q I rx ry h
  obtain ⟨d, e, hd, he, q⟩ := h
  obtain ⟨as, ra⟩ := pd_reads I 9 d x v hd rx
  obtain ⟨bs, rb⟩ := pd_reads I 9 e y u he ry
  exact eq_dataH ra rb (pd_shaped hd) (pd_shaped he) hu ⟨.bl _, H, I, rfl, q⟩
theorem op_neP (hu : X.A.units + 64 < cLine) : OpR X (compareOp .NotEq) (rNeP X.K) := by
  intro pins s σ H x y v u Q I rx ry h
  obtain ⟨d, e, hd, he, q⟩ := h
  obtain ⟨as, ra⟩ := pd_reads I 9 d x v hd rx
  obtain ⟨bs, rb⟩ := pd_reads I 9 e y u he ry
  exact ne_dataH ra rb (pd_shaped hd) (pd_shaped he) hu ⟨.bl _, H, I, rfl, q⟩
end
abbrev iL (ns : List Int) : List V := ns.map V.int
abbrev pL (ns : List Int) : PyData := .list (ns.map PyData.int)
theorem eqvAll_ints : ∀ (xs ys : List Int), PyData.eqvAll (xs.map PyData.int) (ys.map PyData.int) = decide (xs = ys)
  | [], [] => by simp [PyData.eqvAll]
  | [], y :: ys => by simp [PyData.eqvAll]
  | x :: xs, [] => by simp [PyData.eqvAll]
  | x :: xs, y :: ys => by
    simp only [List.map_cons, PyData.eqvAll, PyData.eqv, eqvAll_ints xs ys, List.cons.injEq]
    by_cases h1 : x = y <;> by_cases h2 : xs = ys <;> simp [h1, h2]
theorem eqv_pints (xs ys : List Int) : PyData.eqv (pL xs) (pL ys) = decide (xs = ys) := by
  show PyData.eqvAll _ _ = _
  exact eqvAll_ints xs ys
theorem paired_ints {K : PySem.W.Frag} {H : Hp} {n : Nat} : ∀ ns : List Int, Paired (PdAt K H n) (ns.map PyData.int) (iL ns)
  | [] => .nil
  | i :: ns => .cons (by cases n <;> exact (rfl : V.int i = V.int i)) (paired_ints ns)
theorem pd_ints {K : PySem.W.Frag} {H : Hp} {n : Nat} {a : Addr} {ns : List Int} (h : SqL K H a (iL ns)) : PdAt K H (n + 1) (pL ns) (.ref a) := ⟨a, iL ns, rfl, h, paired_ints ns⟩
theorem pd_int {K : PySem.W.Frag} {H : Hp} {n : Nat} {i : Int} : PdAt K H n (.int i) (.int i) := by cases n <;> exact (rfl : V.int i = V.int i)
theorem pd_bl {K : PySem.W.Frag} {H : Hp} {n : Nat} {b : Bool} : PdAt K H n (.bool b) (.bl b) := by cases n <;> exact (rfl : V.bl b = V.bl b)
/-! ### intro rules -/
section
variable {K : PySem.W.Frag} {σ : St} {H : Hp} {Q : VK}
theorem i_var {i : Nat} {v : V} (h : σ[i]? = some (some v)) (q : Q v H) : tVar i σ H Q := ⟨v, h, q⟩
theorem i_I0 {g : Int → Int → V} {i j : Int} (q : Q (g i j) H) : rI0 g (.int i) (.int j) H Q := ⟨i, j, rfl, rfl, q⟩
theorem i_U {g : Int → V} {i : Int} (q : Q (g i) H) : rU g (.int i) H Q := ⟨i, rfl, q⟩
theorem beq_dec (i j : Int) : (i == j) = decide (i = j) := by
  by_cases h : i = j <;> simp [h]
theorem i_eqI {i j : Int} (q : Q (.bl (decide (i = j))) H) : rEqP K (.int i) (.int j) H Q := ⟨_, _, pd_int, pd_int, by rw [← beq_dec] at q; simpa [PyData.eqv] using q⟩
theorem i_neI {i j : Int} (q : Q (.bl (!decide (i = j))) H) : rNeP K (.int i) (.int j) H Q := ⟨_, _, pd_int, pd_int, by rw [← beq_dec] at q; simpa [PyData.eqv] using q⟩
theorem i_eqB {i j : Bool} (q : Q (.bl (decide (i = j))) H) : rEqP K (.bl i) (.bl j) H Q := ⟨_, _, pd_bl, pd_bl, by
  have e : (decide (i = j)) = (i == j) := by cases i <;> cases j <;> rfl
  rw [e] at q; simpa [PyData.eqv] using q⟩
theorem i_eqL {a b : Addr} {xs ys : List Int} (ha : SqL K H a (iL xs)) (hb : SqL K H b (iL ys)) (q : Q (.bl (decide (xs = ys))) H) : rEqP K (.ref a) (.ref b) H Q := ⟨_, _, pd_ints ha, pd_ints hb, by rw [eqv_pints]; exact q⟩
theorem i_neL {a b : Addr} {xs ys : List Int} (ha : SqL K H a (iL xs)) (hb : SqL K H b (iL ys)) (q : Q (.bl (!decide (xs = ys))) H) : rNeP K (.ref a) (.ref b) H Q := ⟨_, _, pd_ints ha, pd_ints hb, by rw [eqv_pints]; exact q⟩
end

/-! ### + and * of more kinds, an item -/
def rAddP : R2 := fun x y H Q => rI0 (fun i j => .int (i + j)) x y H Q ∨ rCat x y H Q
def rIxP (K : PySem.W.Frag) : R2 := fun x y H Q => rIxL K x y H Q ∨ rIxT K x y H Q
def rMulP : R2 := fun x y H Q => rI CMul (fun i j => .int (i * j)) x y H Q ∨ rRep x y H Q
section
variable {X : Cx}
theorem op_addP : OpR X (binaryOp .Add) rAddP := op_add.or op_cat
theorem op_mulP : OpR X (binaryOp .Mult) rMulP := op_mul.or op_rep
theorem ix_P : IxR X (rIxP X.K) := ix_list.or ix_tup
end
section
variable {K : PySem.W.Frag} {σ : St} {H : Hp} {Q : VK}
theorem i_addI {i j : Int} (q : Q (.int (i + j)) H) : rAddP (.int i) (.int j) H Q := .inl ⟨i, j, rfl, rfl, q⟩
theorem i_addL {a b : Addr} {xs ys : List V} (ha : H a = some (.lst xs)) (hb : H b = some (.lst ys)) (hl : xs.length + ys.length ≤ sizeLine) (q : ∀ p, H p = none → Q (.ref p) (upd H p (.lst (xs ++ ys)))) : rAddP (.ref a) (.ref b) H Q := .inr ⟨a, b, xs, ys, rfl, rfl, ha, hb, hl, q⟩
theorem i_mulI {i j : Int} (c : CMul i j) (q : Q (.int (i * j)) H) : rMulP (.int i) (.int j) H Q := .inl ⟨i, j, rfl, rfl, c, q⟩
theorem atI_ints {ns : List Int} {i : Int} (h0 : 0 ≤ i) (h1 : i < ns.length) : ∃ v, atI (iL ns) i = some (.int v) ∧ ns[i.toNat]? = some v ∧ v ∈ ns := by
  have hl : i.toNat < ns.length := by omega
  refine ⟨ns[i.toNat], ?_, by simp [hl], List.getElem_mem hl⟩
  have := atI_nat (xs := iL ns) (j := i.toNat) (v := .int ns[i.toNat]) (by simp [iL, hl])
  rwa [Int.toNat_of_nonneg h0] at this
/-- an item of a list of iL, in bounds -/
theorem i_ixL {p : Addr} {ns : List Int} {i : Int} (h : SqL K H p (iL ns)) (h0 : 0 ≤ i) (h1 : i < ns.length) (q : ∀ v, ns[i.toNat]? = some v → v ∈ ns → Q (.int v) H) : rIxP K (.ref p) (.int i) H Q := by
  obtain ⟨v, e1, e2, e3⟩ := atI_ints h0 h1
  exact .inl ⟨p, _, i, _, rfl, rfl, h, e1, q v e2 e3⟩
/-- an item of any list, at a place from the front -/
theorem i_ixN {p : Addr} {xs : List V} {i : Int} {v : V} (h : SqL K H p xs) (h0 : 0 ≤ i) (e : xs[i.toNat]? = some v) (q : Q v H) : rIxP K (.ref p) (.int i) H Q := by
  have := atI_nat (xs := xs) (j := i.toNat) (v := v) e
  rw [Int.toNat_of_nonneg h0] at this
  exact .inl ⟨p, _, i, _, rfl, rfl, h, this, q⟩
theorem i_ixT {p : Addr} {xs : List V} {i : Int} {v : V} (h : SqT K H p xs) (h0 : 0 ≤ i) (e : xs[i.toNat]? = some v) (q : Q v H) : rIxP K (.ref p) (.int i) H Q := by
  have := atI_nat (xs := xs) (j := i.toNat) (v := v) e
  rw [Int.toNat_of_nonneg h0] at this
  exact .inr ⟨p, _, i, _, rfl, rfl, h, this, q⟩
theorem i_ixLast {p : Addr} {xs : List V} {v : V} (h : SqL K H p (xs ++ [v])) (q : Q v H) : rIxP K (.ref p) (.int (-1)) H Q := .inl ⟨p, _, _, _, rfl, rfl, h, atI_last xs v, q⟩
end

/-! ### calls of the text's own defs -/
def Callee (P : Program) (w : World) (K : PySem.W.Frag) (mg : Str → Option Value) (base : Heap) (x : Str) (k : Nat) (sp : Sp) : Prop :=
  ∃ f fd ps, FnOk P w K mg base CX0 k f fd ps sp ∧ mg x = some (.ref f) ∧ PySem.W.keepIn K (.ref f) = true ∧ Binds K fd ps []
def Def (K : PySem.W.Frag) (mg : Str → Option Value) (x : Str) (st : Stmt) : Prop := ∃ f fd, Fun K x x st f fd ∧ mg x = some (.ref f)
section
variable {X : Cx} {x : Str} {k : Nat} {sp : Sp} {e : Expr} {es : List Expr} {t : TA} {p pos : Pos}
theorem pe_callN (C : Callee X.prog X.w X.K X.mg X.base x k sp) (hr : Room k X.A) (hg : Gl X x) (ha : PA X (e :: es) t)
    (he : starEach (e :: es) X.env = (false, eval e X.env) :: starEach es X.env := by rfl) (hpl : (backTo pos (starEach es X.env)).any (·.1) = false := by rfl)
    (hdb : (x == ("__debug__" : Str)) = false := by decide) : PE X (.Call (.Name x p) (e :: es) [] pos) (tCall sp [] E0 t) := by
  obtain ⟨f, fd, ps, F, hm, hk, hb⟩ := C
  exact pe_call F hr hg hm hk hb .nil pass0 ha (hdb := hdb) (he := he) (hpl := hpl)
def rTru (K : PySem.W.Frag) (x : V) (H : Hp) (Q : Bool → Hp → Prop) : Prop := ∃ k, TruV K x H k ∧ Q k H
def tTru (K : PySem.W.Frag) (ta : TE) : TT := fun σ H Q => ta σ H fun x H' => rTru K x H' Q
theorem pt_truthN {a : Expr} {ta : TE} (ha : PE X a ta) (he : ∀ whole, isTrue a X.env whole = (do let v ← whole; standAt a.pos; holding [v] (truthy v))) :
    PT X a (tTru X.K ta) := pt_truth ha he
end
theorem Def.ok {P : Program} {w : World} {K : PySem.W.Frag} {mg : Str → Option Value} {base : Heap} {x : Str} {st : Stmt} {N ps : List Str} {k : Nat} {sp : Sp} (D : Def K mg x st) (S : FnScope N ps (defScope st))
    (bd : ∀ (kV doc pm : Value) (an : Option Addr) (cdv ct : Value) (us : List Value), us.length = ps.length → bindArgs (PySem.W.fnOf x x (defArgs st) (defBody st) (defScope st) .none kV doc pm an cdv ct) ⟨us, []⟩ = pure (ps.zip us))
    (len : ∀ vs H Q E, sp vs H Q E → vs.length = ps.length)
    (hbody : ∀ (f : Addr) (cdv : Value) (A : Around) (outer : List Env) (s : Shared) (H : Hp) (vs : List V) (Q : VK) (E : XK), Room k (A.deeper (envOfC x (defScope st) s.heap.objs.size f cdv)) → sp vs H Q E →
      ∃ t, PSs (cxOf CX0 P w K mg base N x (defScope st) f cdv A outer s H E).nox (defBody st) t ∧ t { nx := fun _ H' => Q .non H', rt := Q } (start N vs) H) : Callee P w K mg base x (k + 1) sp := by
  obtain ⟨f, fd, F, hm⟩ := D
  exact ⟨f, fd, ps, F.ok S len fun cdv A outer s H vs Q E hr h => hbody f cdv A outer s H vs Q E hr h, hm, F.kp, F.binds bd⟩

/-! ### built-ins -/
def rLen (K : PySem.W.Frag) : List V → Hp → VK → Prop := fun xs H Q => ∃ x n, xs = [x] ∧ LenV K x H n ∧ Q (.int n) H
def rIsi (K : PySem.W.Frag) : List V → Hp → VK → Prop := fun xs H Q => ∃ x t n b, xs = [x, .ty n] ∧ TyOf K H x t ∧ PySem.W.kitOne K t (.type n) = some b ∧ Q (.bl b) H
def rIntOf : List V → Hp → VK → Prop := fun xs H Q => (∃ i, xs = [.int i] ∧ Q (.int i) H) ∨ ∃ k, xs = [.bl k] ∧ Q (.int (if k then 1 else 0)) H
def rAbs : List V → Hp → VK → Prop := fun xs H Q => ∃ i, xs = [.int i] ∧ Q (.int (if i < 0 then -i else i)) H
def rListOf (K : PySem.W.Frag) : List V → Hp → VK → Prop := fun xs H Q => ∃ p ys, xs = [.ref p] ∧ (SqL K H p ys ∨ SqT K H p ys) ∧ ∀ l, H l = none → Q (.ref l) (upd H l (.lst ys))
section
variable {X : Cx}
theorem call_lenN : CallR X (.builtin "len") (rLen X.K) := call_len
theorem call_intN : CallR X (.type "int") rIntOf := call_int1
theorem call_absN : CallR X (.builtin "abs") rAbs := call_abs
theorem call_listN : CallR X (.type "list") (rListOf X.K) := call_list_of
theorem call_isinstanceN : CallR X (.builtin "isinstance") (rIsi X.K) := by
  intro pins s σ H xs us Q I r h
  obtain ⟨x, t, n, b, rfl, ty, e, q⟩ := h
  obtain ⟨u, c, rfl, rx, rc⟩ := vals2 r
  cases (show c = Value.type n from rc)
  exact isinst_ok I rx ty e fun tk => ⟨.bl b, H, I.tok tk, rfl, q⟩
end
section
variable {K : PySem.W.Frag} {σ : St} {H : Hp} {Q : VK}
theorem i_lenI {p : Addr} {ns : List Int} (h : SqL K H p (iL ns)) (q : Q (.int ns.length) H) : rLen K [.ref p] H Q := ⟨_, _, rfl, .inl ⟨_, h, rfl⟩, by simpa [iL] using q⟩
theorem i_intB {k : Bool} (q : Q (.int (if k then 1 else 0)) H) : rIntOf [.bl k] H Q := .inr ⟨k, rfl, q⟩
theorem i_abs {i : Int} (q : Q (.int (if i < 0 then -i else i)) H) : rAbs [.int i] H Q := ⟨i, rfl, q⟩
theorem i_listL {p : Addr} {ys : List V} (h : SqL K H p ys) (q : ∀ l, H l = none → Q (.ref l) (upd H l (.lst ys))) : rListOf K [.ref p] H Q := ⟨p, ys, rfl, .inl h, q⟩
theorem isi_ii : PySem.W.kitOne K (.type "int") (.type "int") = some true := by kernel_rfl
theorem isi_ib : PySem.W.kitOne K (.type "int") (.type "bool") = some false := by kernel_rfl
theorem isi_ll : PySem.W.kitOne K (.type "list") (.type "list") = some true := by kernel_rfl
theorem isi_il : PySem.W.kitOne K (.type "int") (.type "list") = some false := by kernel_rfl
theorem isi_id : PySem.W.kitOne K (.type "int") (.type "dict") = some false := by kernel_rfl
theorem isi_it : PySem.W.kitOne K (.type "int") (.type "tuple") = some false := by kernel_rfl
theorem isi_bb : PySem.W.kitOne K (.type "bool") (.type "bool") = some true := by kernel_rfl
theorem i_isiII {i : Int} (q : Q (.bl true) H) : rIsi K [.int i, .ty "int"] H Q := ⟨_, _, _, true, rfl, .int i, isi_ii, q⟩
theorem i_isiIB {i : Int} (q : Q (.bl false) H) : rIsi K [.int i, .ty "bool"] H Q := ⟨_, _, _, false, rfl, .int i, isi_ib, q⟩
theorem i_isiIL {i : Int} (q : Q (.bl false) H) : rIsi K [.int i, .ty "list"] H Q := ⟨_, _, _, false, rfl, .int i, isi_il, q⟩
theorem i_isiID {i : Int} (q : Q (.bl false) H) : rIsi K [.int i, .ty "dict"] H Q := ⟨_, _, _, false, rfl, .int i, isi_id, q⟩
theorem i_isiIT {i : Int} (q : Q (.bl false) H) : rIsi K [.int i, .ty "tuple"] H Q := ⟨_, _, _, false, rfl, .int i, isi_it, q⟩
theorem i_isiBB {b : Bool} (q : Q (.bl true) H) : rIsi K [.bl b, .ty "bool"] H Q := ⟨_, _, _, true, rfl, .bl b, isi_bb, q⟩
theorem i_isiLL {a : Addr} {xs : List V} (h : H a = some (.lst xs)) (q : Q (.bl true) H) : rIsi K [.ref a, .ty "list"] H Q := ⟨_, _, _, true, rfl, .lst h, isi_ll, q⟩
end

/-! ### tests, sizes -/
theorem i_if {p : Prop} [Decidable p] {A B : Prop} (h1 : p → A) (h2 : ¬ p → B) : if decide p = true then A else B := by
  by_cases h : p
  · rw [decide_eq_true h]; exact iteT (h1 h)
  · rw [decide_eq_false h]; exact iteF (h2 h)
theorem i_ifn {p : Prop} [Decidable p] {A B : Prop} (h1 : ¬ p → A) (h2 : p → B) : if (!decide p) = true then A else B := by
  by_cases h : p
  · rw [decide_eq_true h]; exact iteF (h2 h)
  · rw [decide_eq_false h]; exact iteT (h1 h)
theorem iteNT {A B : Prop} (h : B) : if (!true) = true then A else B := iteF h
theorem iteNF {A B : Prop} (h : A) : if (!false) = true then A else B := iteT h
theorem szl {n : Nat} (h : n ≤ 100000) : n ≤ sizeLine := Nat.le_trans h (by rw [sizeLine_eq]; decide)
theorem szlt {n : Nat} (h : n ≤ 100000) : n < sizeLine := Nat.lt_of_le_of_lt h (by rw [sizeLine_eq]; decide)
theorem same_upd {H : Hp} {l : Addr} {o : HO} (h : H l = none) : Same H (upd H l o) := fun b u e => by rw [upd_ne (ne_of_none e h)]; exact e
/-- all but one address as it was -/
def SameBut (l : Addr) (H H' : Hp) : Prop := ∀ b o, b ≠ l → H b = some o → H' b = some o
theorem cmul_l {i j : Int} (h1 : -(2 ^ 64) < i) (h2 : i < 2 ^ 64) : CMul i j := .inl ⟨h1, h2⟩
theorem cmul_r {i j : Int} (h1 : -(2 ^ 64) < j) (h2 : j < 2 ^ 64) : CMul i j := .inr ⟨h1, h2⟩
end L2

namespace L2
open PySem PySem.Spec PyProof.Rows
theorem bt_int : bootBuiltins "int" = some (.type "int") := by first | exact PySem.boot_int | exact PySem.Pv.boot_int | exact PyProof.Rows.boot_int
theorem bt_bool : bootBuiltins "bool" = some (.type "bool") := by first | exact PySem.boot_bool | exact PySem.Pv.boot_bool | exact PyProof.Rows.boot_bool
theorem bt_list : bootBuiltins "list" = some (.type "list") := by first | exact PySem.boot_list | exact PySem.Pv.boot_list | exact PyProof.Rows.boot_list
theorem bt_tuple : bootBuiltins "tuple" = some (.type "tuple") := by first | exact PySem.boot_tuple | exact PySem.Pv.boot_tuple | exact PyProof.Rows.boot_tuple
theorem bt_dict : bootBuiltins "dict" = some (.type "dict") := by first | exact PySem.boot_dict | exact PySem.Pv.boot_dict | exact PyProof.Rows.boot_dict
theorem bt_str : bootBuiltins "str" = some (.type "str") := by first | exact PySem.boot_str | exact PySem.Pv.boot_str | exact PyProof.Rows.boot_str
theorem bt_isinstance : bootBuiltins "isinstance" = some (.builtin "isinstance") := by first | exact PySem.boot_isinstance | exact PySem.Pv.boot_isinstance | exact PyProof.Rows.boot_isinstance
theorem bt_min : bootBuiltins "min" = some (.builtin "min") := by first | exact PySem.boot_min | exact PySem.Pv.boot_min | exact PyProof.Rows.boot_min
theorem bt_max : bootBuiltins "max" = some (.builtin "max") := by first | exact PySem.boot_max | exact PySem.Pv.boot_max | exact PyProof.Rows.boot_max
theorem bt_sum : bootBuiltins "sum" = some (.builtin "sum") := by first | exact PySem.boot_sum | exact PySem.Pv.boot_sum | exact PyProof.Rows.boot_sum
theorem bt_sorted : bootBuiltins "sorted" = some (.builtin "sorted") := by first | exact PySem.boot_sorted | exact PySem.Pv.boot_sorted | exact PyProof.Rows.boot_sorted
theorem bt_abs : bootBuiltins "abs" = some (.builtin "abs") := by first | exact PySem.boot_abs | exact PySem.Pv.boot_abs | exact PyProof.Rows.boot_abs
theorem bt_len : bootBuiltins "len" = some (.builtin "len") := by first | exact PySem.boot_len | exact PySem.Pv.boot_len | exact PyProof.Rows.boot_len
section
variable {X : Cx} {pos p1 p2 : Pos} {k1 k2 : Nat}
theorem pe_powK {i j r : Int} (h : 0 ≤ j ∧ j ≤ 1000000 ∧ i.natAbs < 2 ^ 64 ∧ i ^ j.toNat = r) : PE X (.BinOp (.Constant (.int i) k1 p1) .Pow (.Constant (.int j) k2 p2) pos) (tC (.int r)) := by
  intro pins s σ H Q I q
  refine pe_op op_pow pe_int pe_int pins s σ H Q I ?_
  exact ⟨i, j, rfl, rfl, ⟨h.1, h.2.1, h.2.2.1⟩, by have e := h.2.2.2; subst e; exact q⟩
theorem pe_negK {i r : Int} (h : -i = r) : PE X (.UnaryOp .USub (.Constant (.int i) k1 p1) pos) (tC (.int r)) := by
  intro pins s σ H Q I q
  refine pe_un un_neg pe_int pins s σ H Q I ?_
  exact ⟨i, rfl, by subst h; exact q⟩
end
section
variable {K : PySem.W.Frag} {σ : St} {H : Hp} {Q : VK} {i j : Int}
theorem i_div (h0 : 0 < j) (h1 : j < 1073741824) (q : Q (.int (i / j)) H) : rI CDiv (fun i j => .int (i / j)) (.int i) (.int j) H Q := ⟨i, j, rfl, rfl, ⟨h0, h1⟩, q⟩
theorem i_mod (h0 : 0 < j) (q : Q (.int (i % j)) H) : rI (fun _ j => 0 < j) (fun i j => .int (i % j)) (.int i) (.int j) H Q := ⟨i, j, rfl, rfl, h0, q⟩
theorem i_app {l : Addr} {xs : List V} {y : V} (h : H l = some (.lst xs)) (hl : xs.length < sizeLine) (q : Q .non (upd H l (.lst (xs ++ [y])))) : rAppend (.ref l) [y] H Q := ⟨l, xs, y, rfl, rfl, h, hl, q⟩
end
end L2

namespace L2
open PySem PySem.Spec PyProof.Rows
/-! ### loops, kept folded -/
def LoopI (J : It) (g : TG) (tb : TS) (D : Ends) (σ : St) (H1 : Hp) : Prop := ∃ W : Nat → Nat → St → Hp → Prop, (∃ m, W 0 m σ H1) ∧ ∀ i m σ H, W i m σ H →
  (J.stop i H ∧ D.nx σ H) ∨ (J.go i H ∧ ∃ N : St → Hp → Prop, (∀ σ' H', N σ' H' → ∃ m', m' < m ∧ W (i + 1) m' σ' H') ∧ ∀ x H', J.yld i H x H' → g x σ H' fun σ2 H2 => tb { D with nx := N, ct := N, bk := D.nx } σ2 H2)
theorem tFor_eq (wi : TI) (g : TG) (tb : TS) : tFor wi g tb = fun D σ H => wi σ H fun J H1 => LoopI J g tb D σ H1 := rfl
theorem lp_list {K : PySem.W.Frag} {a : Addr} {xs : List V} {g : TG} {tb : TS} {D : Ends} {σ : St} {H : Hp} (Pv : Nat → St → Hp → Prop) (h0 : Pv 0 σ H) (hl : ∀ i σ H, i ≤ xs.length → Pv i σ H → SqL K H a xs)
    (hs : ∀ i x σ H, xs[i]? = some x → Pv i σ H → g x σ H fun σ2 H2 => tb { D with nx := Pv (i + 1), ct := Pv (i + 1), bk := D.nx } σ2 H2) (hd : ∀ σ H, Pv xs.length σ H → D.nx σ H) : LoopI (Itl K a) g tb D σ H := for_list Pv h0 hl hs hd
theorem lp_ints {K : PySem.W.Frag} {a : Addr} {ns : List Int} {g : TG} {tb : TS} {D : Ends} {σ : St} {H : Hp} (Pv : Nat → St → Hp → Prop) (h0 : Pv 0 σ H) (hl : ∀ i σ H, i ≤ ns.length → Pv i σ H → SqL K H a (iL ns))
    (hs : ∀ i x σ H, ns[i]? = some x → Pv i σ H → g (.int x) σ H fun σ2 H2 => tb { D with nx := Pv (i + 1), ct := Pv (i + 1), bk := D.nx } σ2 H2) (hd : ∀ σ H, Pv ns.length σ H → D.nx σ H) : LoopI (Itl K a) g tb D σ H := by
  have e : (iL ns).length = ns.length := by simp [iL]
  refine for_list (xs := iL ns) Pv h0 (fun i σ H h p => hl i σ H (by rw [e] at h; exact h) p) (fun i x σ H hx p => ?_) (fun σ H p => hd σ H (by rw [e] at p; exact p))
  rw [List.getElem?_map] at hx
  cases q : ns[i]? with
  | none => rw [q] at hx; cases hx
  | some z =>
    rw [q] at hx
    cases hx
    exact hs i z σ H q p
theorem lp_range {lo : Int} {n : Nat} {g : TG} {tb : TS} {D : Ends} {σ : St} {H : Hp} (Pv : Nat → St → Hp → Prop) (h0 : Pv 0 σ H)
    (hs : ∀ i σ H, i < n → Pv i σ H → g (.int (lo + i)) σ H fun σ2 H2 => tb { D with nx := Pv (i + 1), ct := Pv (i + 1), bk := D.nx } σ2 H2) (hd : ∀ σ H, Pv n σ H → D.nx σ H) : LoopI (Itr lo n) g tb D σ H := for_range Pv h0 hs hd
theorem i_truB {K : PySem.W.Frag} {b : Bool} {H : Hp} {Q : Bool → Hp → Prop} (q : Q b H) : rTru K (.bl b) H Q := ⟨b, rfl, q⟩
theorem i_truL {K : PySem.W.Frag} {p : Addr} {xs : List V} {H : Hp} {Q : Bool → Hp → Prop} (h : SqL K H p xs) (q : Q (!xs.isEmpty) H) : rTru K (.ref p) H Q := ⟨_, .inl ⟨xs, h, rfl⟩, q⟩
end L2

namespace L2
open PySem PySem.Spec PyProof.Rows
/-! ### [a, b, ..][i]: the list is not tracked -/
def rMenu (xs : List V) (y : V) (H : Hp) (Q : VK) : Prop := ∃ i v, y = .int i ∧ atI xs i = some v ∧ Q v H
def tMenu (t : TA) (ti : TE) : TE := fun σ H Q => t σ H fun xs H1 => xs.length ≤ sizeLine ∧ ti σ H1 fun y H2 => rMenu xs y H2 Q
section
variable {X : Cx} {es : List Expr} {b : Expr} {t : TA} {tb : TE} {p1 pos : Pos}
theorem item_raw {X : Cx} {value slice : Expr} {pins : List (Addr × Obj)} {s : Shared} {σ : St} {H : Hp} {p : Addr} {its : List Value} {xs : List V} {i : Int} {tk : Tok} {z : V} {Q : VK} (I : Inv X pins σ H s) (r : Vals xs its) (hz : xs.length ≤ sizeLine)
    (pl : s.heap.IsList p its.toArray) (he : atI xs i = some z) (q : Q z H) (hs : subscripted slice false (.ref p) (.int i tk) = operate [.ref p, .int i tk] (getItem (.ref p) (.int i tk))) :
    wpAny (model X.prog X.w) X.A (subscriptTail value slice (.ref p) (.int i tk)) (EP X pins σ Q) X.xe s := by
  obtain ⟨j, h1, h2, h3, h4, h5⟩ := atI_get he
  obtain ⟨w, ew, rw'⟩ := r.get h2
  have hl := r.length
  have hn := line63
  have fin : EP X pins σ Q w s := ⟨z, H, I, rw', q⟩
  by_cases h0 : 0 ≤ i
  · have hj : i.toNat = j := by
      rw [seqIndex_of h0 h5] at h1
      exact Option.some.inj h1
    exact item_listR pl h0 (by omega) (by rw [hj]; simpa using ew) fin hs
  · have hj : (i + (its.toArray.size : Int)).toNat = j := by
      rw [seqIndex_neg (by omega) h4] at h1
      rw [List.size_toArray, ← hl]
      exact Option.some.inj h1
    exact subscriptTail_builtinR (x := w) pl.typeIs slot_list_getitem.lookup
      (wpAny_getItem_list_neg (Q := fun r s' => r = w ∧ EP X pins σ Q r s') pl (by omega) (by rw [List.size_toArray] <;> omega) (by omega) (by rw [hj]; simpa using ew) ⟨rfl, fin⟩) hs
theorem pe_menu (h : PA X es t) (hb : PE X b tb) (hs : PlainIx b) : PE X (.Subscript (.List es p1) b pos) (tMenu t tb) := by
  intro pins s σ H Q I hq
  refine Subscript_ (wpAny_List_spliced (thn (h p1 pins s σ H _ I hq) fun us s1 ⟨xs, H1, I1, r, z, q⟩ => ⟨by rw [← r.length]; exact z, ?_⟩))
  have hf : H1 s1.heap.objs.size = none := I1.hok.fresh (Nat.le_refl _)
  have I2 := I1.kept (t' := s1.toks) (h' := s1.heap.push { cls := .type "list", data := .seq us.toArray 0 }) (fun b u e => Heap.get?_push_of_some _ e)
  have I3 := I2.pins_of (pins' := pins ++ [(s1.heap.objs.size, { cls := .type "list", data := .seq us.toArray 0 })]) (fun p hp => by
    rcases List.mem_append.mp hp with hp | hp
    · exact I2.pin p (List.mem_append_right _ hp)
    · have e : p = (s1.heap.objs.size, ({ cls := .type "list", data := .seq us.toArray 0 } : Obj)) := by simpa using hp
      subst e
      refine ⟨Heap.get?_push_size _ rfl, hf, Nat.ne_of_gt I1.lt, I1.nofs (Nat.le_refl _), fun v e => ?_⟩
      have e' : Data.seq us.toArray 0 = Data.cell v := e
      cases e')
  refine thn (hb _ _ σ H1 _ I3 q) fun u s2 ⟨y, H2, I4, r4, i, v, hy, hv, qq⟩ => ?_
  subst hy
  obtain ⟨tk, rfl⟩ := r4
  have pn := (I4.pin (s1.heap.objs.size, { cls := .type "list", data := .seq us.toArray 0 }) (by simp)).1
  exact item_raw I4.unpinned r z ⟨_, pn, rfl, _, rfl⟩ hv qq (hs _ _)
end
section
variable {H : Hp} {Q : VK} {i : Int}
theorem i_menu3 {xa xb xc : Int} (h0 : 0 ≤ i) (h1 : i < 3) (q : ∀ z, (i = 0 ∧ z = xa) ∨ (i = 1 ∧ z = xb) ∨ (i = 2 ∧ z = xc) → Q (.int z) H) : rMenu [.int xa, .int xb, .int xc] (.int i) H Q := by
  have hi : i = 0 ∨ i = 1 ∨ i = 2 := by omega
  rcases hi with h | h | h
  · subst h; exact ⟨0, _, rfl, rfl, q _ (by simp)⟩
  · subst h; exact ⟨1, _, rfl, rfl, q _ (by simp)⟩
  · subst h; exact ⟨2, _, rfl, rfl, q _ (by simp)⟩
theorem i_menu4 {xa xb xc xd : Int} (h0 : 0 ≤ i) (h1 : i < 4) (q : ∀ z, (i = 0 ∧ z = xa) ∨ (i = 1 ∧ z = xb) ∨ (i = 2 ∧ z = xc) ∨ (i = 3 ∧ z = xd) → Q (.int z) H) : rMenu [.int xa, .int xb, .int xc, .int xd] (.int i) H Q := by
  have hi : i = 0 ∨ i = 1 ∨ i = 2 ∨ i = 3 := by omega
  rcases hi with h | h | h | h
  · subst h; exact ⟨0, _, rfl, rfl, q _ (by simp)⟩
  · subst h; exact ⟨1, _, rfl, rfl, q _ (by simp)⟩
  · subst h; exact ⟨2, _, rfl, rfl, q _ (by simp)⟩
  · subst h; exact ⟨3, _, rfl, rfl, q _ (by simp)⟩
end
theorem cxOf_K (CX : CXT) (P : Program) (w : World) (K : PySem.W.Frag) (mg : Str → Option Value) (base : Heap) (N : List Str) (qual : Str) (scope : Scope) (f : Addr) (cd : Value) (A : Around) (outer : List Env) (s : Shared) (H : Hp) (E : XK) : (cxOf CX P w K mg base N qual scope f cd A outer s H E).K = K := rfl
end L2

namespace L2
open PySem PySem.Spec PyProof.Rows
/-! ### a statement with a word behind it: what follows is read once -/
def tJoin (t u : TS) : TS := fun D σ H => ∃ Pj : St → Hp → Prop, t { D with nx := Pj } σ H ∧ ∀ σ' H', Pj σ' H' → u D σ' H'
theorem pss_join {X : Cx} {st : Stmt} {rest : List Stmt} {t u : TS} (h1 : PS X st t) (h2 : PSs X rest u) : PSs X (st :: rest) (tJoin t u) := by
  intro pins s σ H D I h
  obtain ⟨Pj, ht, hu⟩ := h
  refine wpAny_execs_cons (thn (h1 pins s σ H _ I ht) fun f s1 q => ?_)
  cases f with
  | next =>
    obtain ⟨σ1, H1, I1, q1⟩ := q
    exact h2 pins s1 σ1 H1 D I1 (hu _ _ q1)
  | brk => exact q
  | cont => exact q
  | ret u => exact q
end L2

namespace L2
open PySem PySem.Spec PyProof.Rows
/-! ### slices of lists of ints -/
theorem drop_min {α : Type} (xs : List α) (k : Nat) : xs.drop (min k xs.length) = xs.drop k := by
  by_cases h : k ≤ xs.length
  · rw [Nat.min_eq_left h]
  · rw [Nat.min_eq_right (by omega), List.drop_of_length_le (by omega), List.drop_of_length_le (by omega)]
theorem sIx_pos (n d : Nat) {b : Int} (h : 0 ≤ b) : HT.sIx n d (some b) = min b.toNat n := by
  have := HT.sIx_nat n d b.toNat
  rwa [Int.toNat_of_nonneg h] at this
theorem cut_from {xs : List V} {a : Int} (h : 0 ≤ a) : cutV xs (some a) none = xs.drop a.toNat := by
  unfold cutV
  rw [HT.sIx_none, sIx_pos _ _ h, drop_min, List.take_of_length_le]
  rw [List.length_drop]; omega
section
variable {K : PySem.W.Frag} {H : Hp} {Q : VK} {a : Addr} {ns : List Int}
theorem i_slFrom {b : Int} (h : SqL K H a (iL ns)) (hb : 0 ≤ b) (q : ∀ p, H p = none → Q (.ref p) (upd H p (.lst (iL (ns.drop b.toNat))))) : rSlL K (.ref a) (some b) none H Q :=
  ⟨a, _, rfl, h, fun p hp => by rw [cut_from hb, ← List.map_drop]; exact q p hp⟩
end
end L2

set_option Elab.async false
set_option linter.all false
set_option maxRecDepth 100000
namespace L2
open PySem PySem.Spec PyProof.Rows

/-! ### an untracked list of ours is tracked from now on -/
theorem Inv.track {X : Cx} {pins : List (Addr × Obj)} {σ : St} {H : Hp} {s : Shared} {D : Addr} {o : HO} (I : Inv X pins σ H s) (hn : H D = none) (hL : D ≠ X.env.locals) (h1 : X.s₀.heap.objs.size ≤ D)
    (h2 : ∀ x c, X.env.cells.lookup x = some c → c ≠ D) (h3 : ∀ p ∈ X.pn ++ pins, p.1 ≠ D) (new : ObjOk X.prog X.w (upd H D o) s.heap D o) : Inv X pins σ (upd H D o) s := by
  have up : ∀ b u, H b = some u → upd H D o b = some u := fun b u e => by rw [upd_ne (ne_of_none e hn)]; exact e
  have un : ∀ b, b ≠ D → H b = none → upd H D o b = none := fun b hb e => by rw [upd_ne hb]; exact e
  refine ⟨I.ok, I.os, I.bare, ⟨I.base.keep, I.base.slot, fun b ob e n hx => un b (Nat.ne_of_lt (Nat.lt_of_lt_of_le (Heap.lt_size e) h1)) (I.base.free b ob e n hx), I.base.there, fun b xs e => up _ _ (I.base.tups b xs e), fun b ob u e => up _ _ (I.base.frzs b ob u e), fun b ps e => ?_⟩,
    I.loc, I.cell, un _ (Ne.symm hL) I.free, fun x c e => un _ (h2 x c e) (I.freeC x c e), fun p hp => ?_, fun b u e => ?_, I.len⟩
  · obtain ⟨m, e'⟩ := I.base.tbls b ps e
    exact ⟨m, up _ _ e'⟩
  · obtain ⟨e, n, r⟩ := I.pin p hp
    exact ⟨e, un _ (h3 p hp) n, r⟩
  · by_cases hb : b = D
    · subst hb
      rw [upd_same] at e
      cases e
      exact new
    · rw [upd_ne hb] at e
      exact (I.hok b u e).stay (fun _ _ _ q => q) (fun c q => up _ _ q) fun c xs q => up _ _ q

/-! ### the closure of a comprehension's block -/
def clOf (env : Env) : List (Str × NameKind) → List (Str × Addr) → List (Str × Addr)
  | [], acc => acc
  | (n, k) :: r, acc => clOf env r (if (k == .free) = true then (n, (env.cells.lookup n).getD 0) :: acc else acc)
theorem closure_go {env : Env} : ∀ (names : List (Str × NameKind)) (acc : List (Str × Addr)), (∀ y ∈ names, y.2 = .free → ∃ c, env.cells.lookup y.1 = some c) →
    (forIn names acc fun (x : Str × NameKind) (r : List (Str × Addr)) => match x with
      | (name, kind) => if (kind == .free) = true then do
          let a ← cellOf env name
          pure (ForInStep.yield ((name, a) :: r))
        else pure (ForInStep.yield r) : Sem (List (Str × Addr))) = pure (clOf env names acc)
  | [], acc, _ => rfl
  | (n, k) :: r, acc, h => by
    rw [List.forIn_cons, clOf]
    by_cases hk : (k == NameKind.free) = true
    · obtain ⟨c, hc⟩ := h (n, k) (List.mem_cons_self) (by simpa using hk)
      have hc' : env.cells.lookup n = some c := hc
      simp only [hk, if_true, cellOf, hc', Option.getD_some]
      exact closure_go r _ fun y hy => h y (List.mem_cons_of_mem _ hy)
    · simp only [hk, Bool.false_eq_true, if_false]
      exact closure_go r _ fun y hy => h y (List.mem_cons_of_mem _ hy)
theorem closure_eq {env : Env} {scope : Scope} (h : ∀ y ∈ scope.names, y.2 = .free → ∃ c, env.cells.lookup y.1 = some c) : closureFor scope env = pure (clOf env scope.names []) := by
  have q := closure_go scope.names [] h
  unfold closureFor
  exact (congrArg (fun z => z >>= fun r => pure r) q).trans rfl
theorem clOf_get {env : Env} {x : Str} {c : Addr} : ∀ (names : List (Str × NameKind)) (acc : List (Str × Addr)), (∀ y ∈ names, y.2 = .free → ∃ c, env.cells.lookup y.1 = some c) → (∀ x c, acc.lookup x = some c → env.cells.lookup x = some c) →
    (clOf env names acc).lookup x = some c → env.cells.lookup x = some c
  | [], acc, _, ha, e => ha x c e
  | (n, k) :: r, acc, h, ha, e => by
    rw [clOf] at e
    refine clOf_get r _ (fun y hy => h y (List.mem_cons_of_mem _ hy)) ?_ e
    intro y d hd
    by_cases hk : (k == NameKind.free) = true
    · rw [if_pos hk] at hd
      obtain ⟨c', hc⟩ := h (n, k) List.mem_cons_self (by simpa using hk)
      have hc' : env.cells.lookup n = some c' := hc
      rw [List.lookup_cons] at hd
      cases hy : y == n with
      | true =>
        rw [hy] at hd
        have e1 : y = n := by simpa using hy
        subst e1
        rw [hc'] at hd ⊢
        exact hd
      | false =>
        rw [hy] at hd
        exact ha y d hd
    · rw [if_neg hk] at hd
      exact ha y d hd
theorem clOf_has {env : Env} {x : Str} : ∀ (names : List (Str × NameKind)) (acc : List (Str × Addr)), ((x, NameKind.free) ∈ names ∨ ∃ c, acc.lookup x = some c) → ∃ c, (clOf env names acc).lookup x = some c
  | [], acc, h => by
    rcases h with h | h
    · exact absurd h (by simp)
    · exact h
  | (n, k) :: r, acc, h => by
    rw [clOf]
    refine clOf_has r _ ?_
    rcases h with h | ⟨c, h⟩
    · rcases List.mem_cons.mp h with e | e
      · cases e
        exact .inr ⟨_, by rw [if_pos (by rfl), List.lookup_cons, beq_self_eq_true]⟩
      · exact .inl e
    · refine .inr ?_
      by_cases hk : (k == NameKind.free) = true
      · rw [if_pos hk, List.lookup_cons]
        cases x == n with
        | true => exact ⟨_, rfl⟩
        | false => exact ⟨c, h⟩
      · rw [if_neg hk]; exact ⟨c, h⟩
/-- what a relabelled scope says of a name -/
theorem relabel_get {scope : Scope} {env : Env} {x : Str} {k : NameKind} (h : (relabel scope env).names.lookup x = some k) : (x, k) ∈ scope.names ∨ (k = .cell ∧ (x, NameKind.free) ∈ scope.names) := by
  have m := PySem.mem_of_lookup h
  unfold relabel at m
  obtain ⟨⟨n, k0⟩, hm, e⟩ := List.mem_map.mp m
  dsimp only at e
  split at e
  · rename_i hc
    cases e
    have : k0 = .free := by
      have := (Bool.and_eq_true _ _ ▸ (Bool.and_eq_true _ _ ▸ hc).1 : _ ∧ _).1
      simpa using this
    subst this
    exact .inr ⟨rfl, hm⟩
  · cases e
    exact .inl hm

theorem relabel_freeN {env : Env} : ∀ {names : List (Str × NameKind)} {x : Str}, names.lookup x = some .free →
    (names.map fun (n, k) => if (k == NameKind.free && env.scope.kind == .function && env.kindOf n == some .cell) then (n, NameKind.cell) else (n, k)).lookup x = some .cell ∨
    (names.map fun (n, k) => if (k == NameKind.free && env.scope.kind == .function && env.kindOf n == some .cell) then (n, NameKind.cell) else (n, k)).lookup x = some .free
  | [], _, h => by simp at h
  | (n, k) :: r, x, h => by
    have ih := @relabel_freeN env r x
    show List.lookup x ((if (k == NameKind.free && env.scope.kind == .function && env.kindOf n == some .cell) = true then (n, NameKind.cell) else (n, k)) :: _) = _ ∨ List.lookup x ((if (k == NameKind.free && env.scope.kind == .function && env.kindOf n == some .cell) = true then (n, NameKind.cell) else (n, k)) :: _) = _
    cases hx : x == n with
    | true =>
      simp only [List.lookup_cons, hx] at h
      cases h
      by_cases hc : (NameKind.free == NameKind.free && env.scope.kind == .function && env.kindOf n == some .cell) = true
      · rw [if_pos hc]; left; simp [List.lookup_cons, hx]
      · rw [if_neg hc]; right; simp [List.lookup_cons, hx]
    | false =>
      simp only [List.lookup_cons, hx] at h
      by_cases hc : (k == NameKind.free && env.scope.kind == .function && env.kindOf n == some .cell) = true
      · rw [if_pos hc]; simp only [List.lookup_cons, hx]; exact ih h
      · rw [if_neg hc]; simp only [List.lookup_cons, hx]; exact ih h
theorem relabel_free {scope : Scope} {env : Env} {x : Str} (h : scope.names.lookup x = some .free) : (relabel scope env).names.lookup x = some .cell ∨ (relabel scope env).names.lookup x = some .free := relabel_freeN h

/-! ### the block's context -/
def cxC (X : Cx) (scope : Scope) (C : Addr) (N : List Str) (s₂ : Shared) (H₂ : Hp) (ex : List Addr) : Cx :=
  { X with N := N, s₀ := s₂, H₀ := H₂, env := compEnvC scope (clOf X.env scope.names []) C X.env, outer := X.stack, stack := X.stack, ex := ex, fn := fun _ => false, pn := [], xe := fun _ _ => False }
/-- the names: a slot of the def's for each that is free in the block -/
def FrOk (X : Cx) (scope : Scope) : List Str → List (Option Nat) → Prop
  | [], [] => True
  | _ :: N, none :: fr => FrOk X scope N fr
  | x :: N, some j :: fr => (X.N[j]? = some x ∧ (X.env.kindOf x = some .cell ∨ X.env.kindOf x = some .free) ∧ scope.names.lookup x = some .free) ∧ FrOk X scope N fr
  | _, _ => False
def stC (fr : List (Option Nat)) (σ : St) : St := fr.map fun o => o.bind fun j => (σ[j]?).join
structure CompOk (X : Cx) (scope : Scope) (N : List Str) (fr : List (Option Nat)) : Prop where
  kind : scope.kind = .function
  ncell : ∀ y ∈ scope.names, y.2 ≠ .cell
  names : ∀ y ∈ scope.names, y.2 = .local → scope.names.lookup y.1 = some .local
  frees : ∀ y ∈ scope.names, y.2 = .free → X.env.kindOf y.1 = some .cell ∨ X.env.kindOf y.1 = some .free
  fr : FrOk X scope N fr
theorem FrOk.len {X : Cx} {scope : Scope} : ∀ {N : List Str} {fr : List (Option Nat)}, FrOk X scope N fr → fr.length = N.length
  | [], [], _ => rfl
  | _ :: N, none :: fr, h => by simp [FrOk.len (N := N) (fr := fr) h]
  | _ :: N, some j :: fr, h => by simp [FrOk.len (N := N) (fr := fr) h.2]
  | [], _ :: _, h => h.elim
  | _ :: _, [], h => h.elim
theorem FrOk.get {X : Cx} {scope : Scope} : ∀ {N : List Str} {fr : List (Option Nat)} {i j : Nat} {x : Str}, FrOk X scope N fr → N[i]? = some x → fr[i]? = some (some j) → X.N[j]? = some x ∧ (X.env.kindOf x = some .cell ∨ X.env.kindOf x = some .free) ∧ scope.names.lookup x = some .free
  | [], _, i, j, x, h, e, _ => by simp at e
  | y :: N, [], _, _, _, h, _, _ => h.elim
  | y :: N, none :: fr, 0, j, x, h, e, e2 => by simp at e2
  | y :: N, none :: fr, i + 1, j, x, h, e, e2 => FrOk.get (N := N) (fr := fr) (i := i) h (by simpa using e) (by simpa using e2)
  | y :: N, some k :: fr, 0, j, x, h, e, e2 => by
    simp at e e2
    subst e e2
    exact h.1
  | y :: N, some k :: fr, i + 1, j, x, h, e, e2 => FrOk.get (N := N) (fr := fr) (i := i) h.2 (by simpa using e) (by simpa using e2)
theorem stC_get {fr : List (Option Nat)} {σ : St} {i : Nat} {v : V} (h : (stC fr σ)[i]? = some (some v)) : ∃ j, fr[i]? = some (some j) ∧ σ[j]? = some (some v) := by
  unfold stC at h
  rw [List.getElem?_map] at h
  cases e : fr[i]? with
  | none => rw [e] at h; cases h
  | some o =>
    rw [e] at h
    cases o with
    | none => cases h
    | some j =>
      refine ⟨j, rfl, ?_⟩
      have h' : (σ[j]?).join = some v := by simpa using h
      cases e2 : σ[j]? with
      | none => rw [e2] at h'; cases h'
      | some w => rw [e2] at h'; cases w with
        | none => cases h'
        | some z => cases h'; rfl
section
variable {X : Cx} {scope : Scope} {N : List Str} {fr : List (Option Nat)}
theorem CompOk.cells (c : CompOk X scope N fr) (ok : X.Ok) : ∀ y ∈ scope.names, y.2 = .free → ∃ c, X.env.cells.lookup y.1 = some c := fun y hy e => ok.has y.1 (c.frees y hy e)
theorem CompOk.get (c : CompOk X scope N fr) (ok : X.Ok) {x : Str} {a : Addr} (h : (clOf X.env scope.names []).lookup x = some a) : X.env.cells.lookup x = some a :=
  clOf_get scope.names [] (c.cells ok) (fun _ _ z => by simp at z) h
theorem comp_ok {pins : List (Addr × Obj)} {σ : St} {H : Hp} {s₂ : Shared} {C : Addr} {fp : List Addr} (c : CompOk X scope N fr) (I : Inv X pins σ H s₂) (hC : s₂.heap.objs.size ≤ C) (hfp : ∀ b ∈ fp, FpOk X pins H b ∧ b < s₂.heap.objs.size) :
    (cxC X scope C N s₂ H fp).Ok where
  mod := I.ok.mod
  kind := c.kind
  glob := I.ok.glob
  blt := I.ok.blt
  above := hC
  inj := fun x y a h1 h2 => I.ok.inj x y a (c.get I.ok h1) (c.get I.ok h2)
  has := fun x h => by
    have hm : (x, NameKind.free) ∈ scope.names := by
      rcases h with h | h
      · rcases relabel_get h with z | ⟨_, z⟩
        · exact absurd rfl (c.ncell _ z)
        · exact z
      · rcases relabel_get h with z | ⟨z, _⟩
        · exact z
        · cases z
    exact clOf_has scope.names [] (.inl hm)
  cab := fun x a h => by cases h
  hd := I.ok.hd
  frames := I.ok.frames
  stk := .inl rfl
  exf := fun b hb => ⟨Nat.ne_of_lt (Nat.lt_of_lt_of_le (hfp b hb).2 hC), fun x a h => (hfp b hb).1.2.2.2.2.1 x a (c.get I.ok h)⟩
  bs := I.bs
  bsz := Nat.le_trans I.ok.bsz I.sz
  noex := fun b o e hb => by
    rcases (hfp b hb).1.2.2.2.1 with z | z
    · exact I.ok.noex b o e z
    · have h1 : b < X.base.objs.size := Heap.lt_size e
      have h2 := I.ok.bsz
      exact absurd (Nat.lt_of_lt_of_le h1 (Nat.le_trans h2 z)) (Nat.lt_irrefl _)
  exfs := fun b hb z => by
    rcases List.mem_cons.mp (I.stkSub b z) with e | e
    · exact (hfp b hb).1.2.1 e
    · exact (hfp b hb).1.2.2.1 e
  funs := I.stack
  frf := I.stkFree
theorem comp_inv {pins : List (Addr × Obj)} {σ : St} {H : Hp} {s₂ : Shared} {C : Addr} {fp : List Addr} {h₄ : Heap} {tk : Nat} (c : CompOk X scope N fr) (I : Inv X pins σ H s₂) (hC : s₂.heap.objs.size ≤ C) (hfp : ∀ b ∈ fp, FpOk X pins H b ∧ b < s₂.heap.objs.size)
    (hk : ∀ b o, s₂.heap.get? b = some o → h₄.get? b = some o) (hn : h₄.Ns C fun _ => none) : Inv (cxC X scope C N s₂ H fp) [] (stC fr σ) H { s₂ with heap := h₄, toks := tk } := by
  refine ⟨comp_ok c I hC hfp, rfl, I.bare, Un.kept hk, ⟨_, hn, fun i x v e1 e2 e3 => ?_⟩, fun x a e => ?_, I.hok.fresh hC, fun x a e => I.freeC x a (c.get I.ok e), fun p hp => absurd (show p ∈ ([] : List (Addr × Obj)) from hp) (by simp), I.hok.kept hk, ?_⟩
  · obtain ⟨j, f1, f2⟩ := stC_get e2
    obtain ⟨g1, g2, g3⟩ := c.fr.get e1 f1
    obtain ⟨m, hm, hl⟩ := I.loc
    have vis : Vis X.env.scope x := by
      rcases g2 with g | g
      · exact .inr (.inl g)
      · exact .inr (.inr g)
    obtain ⟨u, ru, lk⟩ := hl j x v g1 f2 vis
    refine ⟨u, ru, ?_⟩
    rcases lk with ⟨k, _⟩ | ⟨_, a, ea, o, ho, hd⟩
    · rcases g2 with g | g <;> (rw [k] at g; cases g)
    · obtain ⟨a', ea'⟩ := clOf_has (env := X.env) scope.names [] (.inl (PySem.mem_of_lookup g3))
      have e5 := c.get I.ok ea'
      rw [ea] at e5
      cases e5
      have kd : (cxC X scope C N s₂ H fp).env.kindOf x = some .cell ∨ (cxC X scope C N s₂ H fp).env.kindOf x = some .free := relabel_free g3
      exact .inr ⟨kd, a, ea', o, hk _ _ ho, hd⟩
  · obtain ⟨v, o, ho, hd⟩ := I.cell x a (c.get I.ok e)
    exact ⟨v, o, hk _ _ ho, hd⟩
  · unfold stC
    rw [List.length_map]
    exact c.fr.len
end

section
variable {prog : Program} {w : World} {A : Around} {E : Value → Shared → Prop} {R : Result → Shared → Prop} {s : Shared}
/-- a turn of the block's loop, whatever the target is -/
theorem compLoop_any {elt target iter : Expr} {ifs : List Expr} {scope : Scope} {pos : Pos} {it acc : Value} {env : Env} (I : Nat → Shared → Prop)
    (turn : ∀ n s, I n s → wpAny (model prog w) A (pyNext it) (fun r s₁ => match r with
      | none => R (.ok .next) s₁
      | some v => wpAny (model prog w) A (letOwnedTupleGo target it v) (fun _ s₀ => wpAny (model prog w) A (assign target env v) (fun _ s₂ =>
          wpAny (model prog w) A (forIn ifs true fun c r => if r = true then do let ok ← isTrue c env (eval c env); pure (ForInStep.yield ok) else pure (ForInStep.yield r)) (fun ok s₃ =>
            if ok = true then wpAny (model prog w) A (eval elt env) (fun x s₄ =>
              wpAny (model prog w) A (call (.builtin "list.append") [acc, x]) (fun _ s₅ => ∃ m, m < n ∧ I m s₅) (fun _ _ => False) s₄) (fun _ _ => False) s₃
            else ∃ m, m < n ∧ I m s₃) (fun _ _ => False) s₂) (fun _ _ => False) s₀) (fun _ _ => False) s₁) (fun _ _ => False) s)
    (n : Nat) (h : I n s) :
    codeAny (model prog w) A (.compLoop (.ListComp elt [⟨target, iter, ifs, 0⟩] scope pos) 0 it acc env) R s := by
  refine codeAny_loop rfl I (fun n s hI => ?_) n h
  show wpAny _ A ((compTurn (.ListComp elt [⟨target, iter, ifs, 0⟩] scope pos) 0 it acc env).onRaise (fun x => do noteFrame x env; theTreesLotGoes x)) _ _ s
  refine wpAny_noted ?_
  rw [compTurn_list]
  have nf : ∀ {α : Type} {m : Sem α} {Q : α → Shared → Prop} {F : Value → Shared → Prop} {s : Shared}, wpAny (model prog w) A m Q (fun _ _ => False) s → wpAny (model prog w) A m Q F s := fun h => wpAny_mono h (fun _ _ x => x) fun _ _ x => x.elim
  refine wpAny_bind (wpAny_standAt (wpAny_bind (wpAny_mono (nf (turn n s hI)) (fun r s₁ h₁ => ?_) fun _ _ h' => h')))
  cases r with
  | none => exact wpAny_pure h₁
  | some v =>
    refine wpAny_bind (wpAny_mono (nf h₁) (fun _ s₀ h₀ => ?_) fun _ _ h' => h')
    refine wpAny_bind (wpAny_mono (nf h₀) (fun _ s₂ h₂ => wpAny_bind (wpAny_mono (nf h₂) (fun ok s₃ h₃ => ?_) fun _ _ h' => h')) fun _ _ h' => h')
    cases ok with
    | false => exact wpAny_pure ⟨rfl, h₃⟩
    | true =>
      exact wpAny_bind (wpAny_bind (wpAny_mono (nf h₃) (fun x s₄ h₄ => wpAny_bind (wpAny_mono (nf h₄) (fun _ s₅ h₅ => wpAny_pure (wpAny_pure ⟨rfl, h₅⟩)) fun _ _ h' => h')) fun _ _ h' => h'))
end

/-! ### targets that leave the free names -/
def Wk (fr : List (Option Nat)) (σ σ2 : St) : Prop := σ2.length = σ.length ∧ ∀ (i j : Nat), fr[i]? = some (some j) → σ2[i]? = σ[i]?
theorem Wk.trans {fr : List (Option Nat)} {a b c : St} (h1 : Wk fr a b) (h2 : Wk fr b c) : Wk fr a c := ⟨h2.1.trans h1.1, fun i j e => (h2.2 i j e).trans (h1.2 i j e)⟩
def GW (fr : List (Option Nat)) (g : TG) : Prop := ∀ x σ H (Q Q' : St → Hp → Prop), (∀ σ2 H2, Wk fr σ σ2 → Q σ2 H2 → Q' σ2 H2) → g x σ H Q → g x σ H Q'
def GWs (fr : List (Option Nat)) (g : TGs) : Prop := ∀ x σ H (Q Q' : St → Hp → Prop), (∀ σ2 H2, Wk fr σ σ2 → Q σ2 H2 → Q' σ2 H2) → g x σ H Q → g x σ H Q'
theorem gw_name {fr : List (Option Nat)} {i : Nat} (h : fr[i]? = some none) : GW fr (gName i) := fun x σ H Q Q' k q => by
  refine k _ _ ⟨by simp, fun a j e => ?_⟩ q
  have : i ≠ a := fun z => by subst z; rw [h] at e; cases e
  rw [List.getElem?_set_ne this]
theorem gws_nil {fr : List (Option Nat)} : GWs fr gNil := fun x σ H Q Q' k q => ⟨q.1, k _ _ ⟨rfl, fun _ _ _ => rfl⟩ q.2⟩
theorem gws_cons {fr : List (Option Nat)} {t : TG} {u : TGs} (h1 : GW fr t) (h2 : GWs fr u) : GWs fr (gCons t u) := fun x σ H Q Q' k q => by
  obtain ⟨v, r, e, q⟩ := q
  exact ⟨v, r, e, h1 v σ H _ _ (fun σ' H' w1 q1 => h2 r σ' H' _ _ (fun σ2 H2 w2 q2 => k _ _ (w1.trans w2) q2) q1) q⟩
theorem gw_tup {fr : List (Option Nat)} {K : PySem.W.Frag} {n : Nat} {t : TGs} (h : GWs fr t) : GW fr (gTup K n t) := fun x σ H Q Q' k q => by
  obtain ⟨a, xs, e1, e2, e3, q⟩ := q
  exact ⟨a, xs, e1, e2, e3, h xs σ H _ _ k q⟩

/-! ### the tests -/
def PIfs (X : Cx) (ifs : List Expr) (t : TT) : Prop :=
  ∀ (pins : List (Addr × Obj)) (s : Shared) (σ : St) (H : Hp) (Q : Bool → Hp → Prop), Inv X pins σ H s → t σ H Q →
    wpAny (model X.prog X.w) X.A (forIn ifs true fun c r => if r = true then do let ok ← isTrue c X.env (eval c X.env); pure (ForInStep.yield ok) else pure (ForInStep.yield r)) (TP X pins σ Q) X.xe s
def tNoIf : TT := fun _ H Q => Q true H
theorem pifs_nil {X : Cx} : PIfs X [] tNoIf := fun _ _ _ H _ I h => wpAny_tests_nil ⟨H, I, h⟩
theorem pifs_one {X : Cx} {c : Expr} {t : TT} (h : PT X c t) : PIfs X [c] t := fun pins s σ H Q I q => wpAny_tests_one (h pins s σ H Q I q)

/-! ### the comprehension -/
def CompI (J : It) (g : TG) (ti : TT) (te : TE) (σc : St) (H1 : Hp) (Q : VK) : Prop := ∃ W : Nat → Nat → List V → Hp → Prop, (∃ m, W 0 m [] H1) ∧ ∀ i m ys H, W i m ys H → ys.length < sizeLine ∧
  ((J.stop i H ∧ ∀ l, H l = none → Q (.ref l) (upd H l (.lst ys))) ∨ (J.go i H ∧ ∃ M : List V → Hp → Prop, (∀ ys' H', M ys' H' → ∃ m', m' < m ∧ W (i + 1) m' ys' H') ∧
    ∀ x H', J.yld i H x H' → g x σc H' fun σ2 H2 => ti σ2 H2 fun b H3 => if b = true then te σ2 H3 fun y H4 => M (ys ++ [y]) H4 else M ys H3))
def tComp (fr : List (Option Nat)) (wi : TI) (g : TG) (ti : TT) (te : TE) : TE := fun σ H Q => wi σ H fun J H1 => CompI J g ti te (stC fr σ) H1 Q
structure Aside (X : Cx) (pins : List (Addr × Obj)) (H : Hp) (C : Addr) : Prop where
  fr : H C = none
  ne : C ≠ X.env.locals
  ab : X.s₀.heap.objs.size ≤ C
  cl : ∀ x c, X.env.cells.lookup x = some c → c ≠ C
  pn : ∀ p ∈ X.pn ++ pins, p.1 ≠ C
theorem Inv.aside {X : Cx} {pins : List (Addr × Obj)} {σ : St} {H H' : Hp} {s : Shared} {C : Addr} (I : Inv X pins σ H s) (hC : s.heap.objs.size ≤ C) (hn : H' C = none) : Aside X pins H' C := by
  obtain ⟨a, b, c, d, e, f⟩ := I.fpOk hC hn
  exact ⟨hn, b, Nat.le_trans I.sz hC, e, f⟩
def lob (us : List Value) (n : Nat) : Obj := { cls := .type "list", dict := none, data := .seq us.toArray n }
section
variable {X : Cx} {scope : Scope} {N : List Str} {fr : List (Option Nat)} {tg iter elt : Expr} {ifs : List Expr} {pos : Pos} {J : It} {g : TG} {ti : TT} {te : TE}
theorem comp_core {pins : List (Addr × Obj)} {σ : St} {H : Hp} {s₂ : Shared} {it : Addr} {fp : List Addr} {tn : Nat → Heap → Prop} {Q : VK} {E : Value → Shared → Prop} (c : CompOk X scope N fr) (hc : X.calm = true) (I : Inv X pins σ H s₂)
    (T : Turn X.prog X.w X.K tg J fp it tn) (st : tn 0 s₂.heap) (hfp : ∀ b ∈ fp, FpOk X pins H b)
    (hg : ∀ C, PG (cxC X scope C N s₂ H fp) tg g) (hi : ∀ C, PIfs (cxC X scope C N s₂ H fp) ifs ti) (he : ∀ C, PE (cxC X scope C N s₂ H fp) elt te) (gw : GW fr g) (hq : CompI J g ti te (stC fr σ) H Q)
    {RR : Value → Addr → Result → Shared → Prop}
    (hRR : ∀ D C H' ys s', Inv X pins σ (upd H' D (.lst ys)) s' → Aside X pins (upd H' D (.lst ys)) C → (∃ m, s'.heap.Ns C m) → Q (.ref D) (upd H' D (.lst ys)) → RR (.ref D) C (.ok .next) s') :
    wpAny (model X.prog X.w) X.A (newList []) (fun acc s₃ => wpAny (model X.prog X.w) X.A (newFunctionEnv scope X.env.globals (clOf X.env scope.names []) [] X.env.qual none .none (some X.env)) (fun cenv s₄ =>
      codeAny (model X.prog X.w) X.A (.compStart (.ListComp elt [⟨tg, iter, ifs, 0⟩] scope pos) 0 (.ref it) acc { cenv with scope := relabel scope X.env }) (RR acc cenv.locals) s₄) E s₃) E s₂ := by
  refine wpAny_newObj_type (wpAny_newFunctionEnv c.ncell (by intro y hy; simp at hy) (fun h₁ hns₁ hsb₁ => ?_) c.kind)
  dsimp only at hns₁ hsb₁ ⊢
  generalize hH2 : s₂.heap.push { cls := .type "list", dict := none, data := .seq ([] : List Value).toArray } = H2 at hns₁ hsb₁ ⊢
  have hC : H2.objs.size = s₂.heap.objs.size + 1 := by rw [← hH2, Heap.size_push]
  have hCle : s₂.heap.objs.size ≤ H2.objs.size := by rw [hC]; exact Nat.le_succ _
  have hDC : s₂.heap.objs.size ≠ H2.objs.size := by rw [hC]; exact Nat.ne_of_lt (Nat.lt_succ_self _)
  have old : ∀ b o, s₂.heap.get? b = some o → h₁.get? b = some o := fun b o e => hsb₁.extBut b o (by rw [hC]; exact Nat.ne_of_lt (Nat.lt_succ_of_lt (Heap.lt_size e))) (Heap.get?_push_of_some _ (hH2 ▸ Heap.get?_push_of_some _ e))
  have hacc : h₁.get? s₂.heap.objs.size = some (lob [] 0) := hsb₁.extBut _ _ hDC (Heap.get?_push_of_some _ (hH2 ▸ Heap.get?_push_size _ rfl))
  generalize hD : s₂.heap.objs.size = D at *
  generalize hCC : H2.objs.size = C at *
  have hfp2 : ∀ b ∈ fp, FpOk X pins H b ∧ b < s₂.heap.objs.size := fun b hb => ⟨hfp b hb, by obtain ⟨o, e, _⟩ := T.obj _ _ st b hb; exact Heap.lt_size e⟩
  have hns₂ : h₁.Ns C fun _ => none := hns₁
  have I0 : Inv (cxC X scope C N s₂ H fp) [] (stC fr σ) H { s₂ with heap := h₁, toks := s₂.toks + ([] : List (Str × Value)).length } := comp_inv c I (by rw [hD]; exact hCle) hfp2 old hns₂
  have st₁ : tn 0 h₁ := T.keep _ _ _ st fun b hb o e => old b o e
  have hDn : ∀ b ∈ fp, b ≠ D := fun b hb => by rw [← hD]; exact Nat.ne_of_lt (hfp2 b hb).2
  -- what is true of the list that grows
  have dAs : ∀ {H' : Hp}, H' D = none → (D ≠ (cxC X scope C N s₂ H fp).env.locals ∧ (cxC X scope C N s₂ H fp).s₀.heap.objs.size ≤ D ∧ ∀ x a, (cxC X scope C N s₂ H fp).env.cells.lookup x = some a → a ≠ D) := fun hn => ⟨hDC, Nat.le_of_eq hD, fun x a e z => by
    obtain ⟨v, o, ho, _⟩ := I.cell x a (c.get I.ok e)
    have := Heap.lt_size ho
    rw [z, ← hD] at this
    exact Nat.lt_irrefl _ this⟩
  obtain ⟨W, ⟨m0, w0⟩, turn⟩ := hq
  have loop : codeAny (model X.prog X.w) X.A (.compLoop (.ListComp elt [⟨tg, iter, ifs, 0⟩] scope pos) 0 (.ref it) (.ref D) (compEnvC scope (clOf X.env scope.names []) C X.env)) (RR (.ref D) C) { s₂ with heap := h₁, toks := s₂.toks + ([] : List (Str × Value)).length } := by
    refine compLoop_any (fun n s' => ∃ i ys us k H', Inv (cxC X scope C N s₂ H fp) [] (stC fr σ) H' s' ∧ tn i s'.heap ∧ (∀ b ∈ fp, H' b = none) ∧ s'.heap.get? D = some (lob us k) ∧ Vals ys us ∧ H' D = none ∧ W i n ys H') ?_ m0
      ⟨0, [], [], 0, H, I0, st₁, fun b hb => (hfp b hb).1, hacc, .nil, by rw [← hD]; exact I.hok.fresh (Nat.le_refl _), w0⟩
    rintro n s3 ⟨i, ys, us, k, H3, I3, st3, fr3, hD3, rv3, hDn3, w3⟩
    obtain ⟨hlen, alt⟩ := turn i n ys H3 w3
    obtain ⟨d1, d2, d3⟩ := dAs hDn3
    -- the list pinned
    have I3p : Inv (cxC X scope C N s₂ H fp) [(D, lob us k)] (stC fr σ) H3 s3 := I3.pins_of fun p hp => by
      have e : p = (D, lob us k) := by simpa using hp
      subst e
      refine ⟨hD3, hDn3, d1, fun z => ?_, fun v e => by cases (show Data.seq us.toArray k = Data.cell v from e)⟩
      have z' : D ∈ frs X.stack := z
      rcases List.mem_cons.mp (I.stkSub D z') with e | e
      · have := I.lt
        rw [← e, ← hD] at this
        exact Nat.lt_irrefl _ this
      · exact I.nofs (Nat.le_of_eq hD) e
    have stat : ∀ {H' : Hp}, (∀ b ∈ fp, H' b = none) → ∀ b ∈ fp, FpOk (cxC X scope C N s₂ H fp) [(D, lob us k)] H' b := fun hn b hb => by
      obtain ⟨q1, q2⟩ := hfp2 b hb
      refine ⟨hn b hb, Nat.ne_of_lt (Nat.lt_of_lt_of_le q2 (by rw [hD]; exact hCle)), fun z => ?_, .inl hb, fun x a e => q1.2.2.2.2.1 x a (c.get I.ok e), fun p hp => ?_⟩
      · exact (comp_ok c I (by rw [hD]; exact hCle) hfp2).exfs b hb z
      · have e : p = (D, lob us k) := by simpa [cxC] using hp
        subst e
        exact (hDn b hb).symm
    rcases alt with ⟨stop, qn⟩ | ⟨go, M, hM, step⟩
    · refine thn (T.done (cxC X scope C N s₂ H fp) rfl rfl rfl hc i _ s3 _ H3 _ I3p (stat fr3) st3 stop) fun r s4 ⟨hr, I4⟩ => ?_
      subst hr
      have pD := (I4.pin (D, lob us k) (by simp)).1
      have I4' : Inv (cxC X scope C N s₂ H fp) [] (stC fr σ) H3 s4 := I4.pins_of fun p hp => absurd hp (by simp)
      have IX : Inv X pins σ H3 s4 := I.call' I4'.os I4'.base I4'.hok I4'.bare fun b hb => by
        obtain ⟨q1, q2, q3, q4, q5, q6⟩ := hfp b hb
        exact ⟨q4, q2, q5, q6⟩
      have aD : Aside X pins H3 D := I.aside (Nat.le_of_eq hD) hDn3
      have IT : Inv X pins σ (upd H3 D (.lst ys)) s4 := IX.track hDn3 aD.ne aD.ab aD.cl aD.pn ⟨Nat.le_of_lt hlen, us, k, rv3, pD⟩
      refine hRR D C H3 ys s4 IT ?_ ?_ (qn D hDn3)
      · refine I.aside (by rw [hD]; exact hCle) ?_
        rw [upd_ne (Ne.symm hDC)]
        exact I4'.free
      · obtain ⟨m, hm, _⟩ := I4'.loc
        exact ⟨m, hm⟩
    · refine thn (T.item (cxC X scope C N s₂ H fp) rfl rfl rfl hc i _ s3 _ H3 _ I3p (stat fr3) st3 go) fun r s4 ⟨u, hr, h4⟩ => ?_
      subst hr
      refine thn h4 fun _ s5 ⟨x, H5, I5, r5, y5, st5, fr5⟩ => ?_
      have I5' := I5.pinned (stat fr5) (T.obj _ _ st5)
      refine thn (hg C _ s5 _ H5 x u _ I5' r5 (gw x _ H5 _ _ (fun σ2 H2 wk q => And.intro wk q) (step x H5 y5))) fun _ s6 ⟨σ6, H6, I6, wk6, q6⟩ => ?_
      refine thn (hi C _ s6 σ6 H6 _ I6 q6) fun ok s7 ⟨H7, I7, q7⟩ => ?_
      have back : ∀ {σ8 : St} {H8 : Hp} {s8 : Shared}, σ8 = σ6 → Inv (cxC X scope C N s₂ H fp) ([(D, lob us k)] ++ pinsAt fp s5.heap) σ8 H8 s8 → Inv (cxC X scope C N s₂ H fp) [] (stC fr σ) H8 s8 ∧ tn (i + 1) s8.heap ∧ (∀ b ∈ fp, H8 b = none) ∧ s8.heap.get? D = some (lob us k) ∧ H8 D = none := fun {σ8 H8 s8} e8 I8 => by
        subst e8
        have pf : ∀ b o, b ∈ fp → s5.heap.get? b = some o → s8.heap.get? b = some o ∧ H8 b = none := fun b o hb e => by
          have := I8.pin (b, o) (List.mem_append_right _ (List.mem_append_right _ (mem_pinsAt hb e)))
          exact ⟨this.1, this.2.1⟩
        refine ⟨(I8.pins_of (pins' := []) fun p hp => absurd hp (by simp)).weak wk6.1.symm fun a v e => ?_, T.keep _ _ _ st5 fun b hb o e => (pf b o hb e).1, fun b hb => ?_, (I8.pin (D, lob us k) (by simp)).1, (I8.pin (D, lob us k) (by simp)).2.1⟩
        · obtain ⟨j, f1, _⟩ := stC_get e
          rw [wk6.2 a j f1]
          exact e
        · obtain ⟨o, e, _⟩ := T.obj _ _ st5 b hb
          exact (pf b o hb e).2
      cases ok with
      | false =>
        obtain ⟨m', hm, w7⟩ := hM _ _ (by simpa using q7)
        obtain ⟨a1, a2, a3, a4, a5⟩ := back rfl I7
        exact ⟨m', hm, i + 1, ys, us, k, H7, a1, a2, a3, a4, rv3, a5, w7⟩
      | true =>
        have q7' : te σ6 H7 fun y H4 => M (ys ++ [y]) H4 := by simpa using q7
        refine thn (he C _ s7 σ6 H7 _ I7 q7') fun v s8 ⟨y, H8, I8, ry, q8⟩ => ?_
        obtain ⟨m', hm, w8⟩ := hM _ _ q8
        obtain ⟨a1, a2, a3, a4, a5⟩ := back rfl I8
        have hus : us.toArray.size ≤ sizeLine := by
          rw [List.size_toArray, ← rv3.length]
          exact Nat.le_of_lt hlen
        refine wpAny_list_append_plain (hsz := hus) (l := D) (items := us.toArray) ⟨_, a4⟩ fun h₅ hl₅ hs₅ => ?_
        obtain ⟨k', hl₅'⟩ := hl₅
        obtain ⟨e1, e2, e3⟩ := dAs a5
        refine ⟨m', hm, i + 1, ys ++ [y], us ++ [v], k', H8, a1.turned (t' := s8.toks) (fun b o hb e => (hs₅.2 b hb).trans e) a5 e1 (.inr e2) e3 (fun p hp => absurd (show p ∈ ([] : List (Addr × Obj)) from hp) (by simp)), T.keep _ _ _ a2 fun b hb o e => (hs₅.2 b (hDn b hb)).trans e, a3, ?_, rv3.append (.cons ry .nil), a5, w8⟩
        show h₅.get? D = _
        rw [hl₅']
        simp [lob]
  exact codeAny_compStart_list loop (T.self _ _ _ _ _ st₁ loop)

theorem pe_comp {wi : TI} (c : CompOk X scope N fr) (hc : X.calm = true) (hi : PI X tg iter wi) (hg : ∀ C s₂ H fp, PG (cxC X scope C N s₂ H fp) tg g) (hf : ∀ C s₂ H fp, PIfs (cxC X scope C N s₂ H fp) ifs ti) (he : ∀ C s₂ H fp, PE (cxC X scope C N s₂ H fp) elt te) (gw : GW fr g)
    (hs : ∀ x, foldedSetIterable iter X.env x = pure x := by intro _; rfl) : PE X (.ListComp elt [⟨tg, iter, ifs, 0⟩] scope pos) (tComp fr wi g ti te) := by
  intro pins s σ H Q I h
  rw [eval_ListComp]
  refine wpAny_comprehension_free (use := none) rfl hs (closure_eq (c.cells I.ok)) c.kind c.names (thn (hi pins s σ H _ I h) fun v s1 h1 => thn h1 fun itv s2 h2 => ?_)
  obtain ⟨it, fp, tn, J, H2, e, I2, T, st2, f2, q⟩ := h2
  subst e
  refine comp_core (RR := fun acc C => compPost (model X.prog X.w) X.A X.xe none (EP X pins σ Q) acc C) c hc I2 T st2 f2 (fun C => hg C _ _ _) (fun C => hf C _ _ _) (fun C => he C _ _ _) gw q ?_
  intro D C H' ys s' IT as hm q
  obtain ⟨m, hm⟩ := hm
  exact ⟨m, hm, fun h' sb => ⟨.ref D, _, IT.turned (t' := s'.toks) (fun b o hb e => (sb.2 b hb).trans e) as.fr as.ne (.inr as.ab) as.cl as.pn, rfl, q⟩⟩
theorem ps_setC {wi : TI} {i : Nat} {x : Str} {pos' spos : Pos} (hN : X.N.Nodup) (hn : X.N[i]? = some x) (hx : Loc X.env.scope x) (c : CompOk X scope N fr) (hc : X.calm = true) (hi : PI X tg iter wi) (hg : ∀ C s₂ H fp, PG (cxC X scope C N s₂ H fp) tg g) (hf : ∀ C s₂ H fp, PIfs (cxC X scope C N s₂ H fp) ifs ti) (he : ∀ C s₂ H fp, PE (cxC X scope C N s₂ H fp) elt te) (gw : GW fr g)
    (hsw : swapsWith (.ListComp elt [⟨tg, iter, ifs, 0⟩] scope pos) (some (.Name x pos')) spos.line X.env = pure true := by rfl) (hs : ∀ x, foldedSetIterable iter X.env x = pure x := by intro _; rfl)
    (hfl : X.fn x = true ∨ X.env.scope.names.lookup x = some .local := by first | exact .inl rfl | exact .inr rfl | assumption) :
    PS X (.Assign [.Name x pos'] (.ListComp elt [⟨tg, iter, ifs, 0⟩] scope pos) spos) (tAsg (tComp fr wi g ti te) (gName i)) := by
  intro pins s σ H Q I h
  rw [exec_Assign_Name_used _ _ _ _ hsw]
  refine wpAny_bind (wpAny_standAt (wpAny_bind ?_))
  show wpAny _ X.A (do let _ ← comprehension (.ListComp elt [⟨tg, iter, ifs, 0⟩] scope pos) scope X.env _ (newList []) false (eval iter X.env) (some (assign (.Name x pos') X.env))) _ _ s
  refine wpAny_bind (wpAny_mono (wpAny_comprehension_free (use := some (assign (.Name x pos') X.env)) (Q := fun _ s' => SP X pins Q .next s') rfl hs (closure_eq (c.cells I.ok)) c.kind c.names
    (thn (hi pins s σ H _ I h) fun v s1 h1 => thn h1 fun itv s2 h2 => ?_)) (fun _ s' hq => wpAny_pure (wpAny_pure hq)) fun _ _ e => e)
  obtain ⟨it, fp, tn, J, H2, e, I2, T, st2, f2, q⟩ := h2
  subst e
  refine comp_core (RR := fun acc C => compPost (model X.prog X.w) X.A X.xe (some (assign (.Name x pos') X.env)) (fun _ s' => SP X pins Q .next s') acc C) c hc I2 T st2 f2 (fun C => hg C _ _ _) (fun C => hf C _ _ _) (fun C => he C _ _ _) gw q ?_
  intro D C H' ys s' IT as hm q
  obtain ⟨m, hm⟩ := hm
  show wpAny _ X.A (assign (.Name x pos') X.env (.ref D)) _ _ _
  refine wpAny_assign_Name (store_ok2 IT hN hn hx (v := .ref D) rfl (fun s2 I3 hsb => ?_) hfl)
  obtain ⟨a, sb, ha⟩ := hsb
  have hne : C ≠ a := by
    rcases ha with ha | ha
    · rw [ha]; exact as.ne
    · exact (as.cl _ _ ha).symm
  refine ⟨m, hm.sameBut sb hne, fun h' sb' => ⟨_, _, I3.turned (t' := s2.toks) (fun b o hb e => (sb'.2 b hb).trans e) as.fr as.ne (.inr as.ab) as.cl as.pn, q⟩⟩
end
end L2

set_option Elab.async false
set_option linter.all false
set_option maxRecDepth 100000
namespace L2
open PySem PySem.Spec PyProof.Rows

/-- several untracked records of ours have turned -/
theorem Inv.turnedL {X : Cx} {pins : List (Addr × Obj)} {σ : St} {H : Hp} {s : Shared} {h' : Heap} {t' : Nat} {fp : List Addr} (I : Inv X pins σ H s) (hf : ∀ b ∈ fp, FpOk X pins H b) (k : ∀ b o, b ∉ fp → s.heap.get? b = some o → h'.get? b = some o) :
    Inv X pins σ H { s with heap := h', toks := t' } := by
  have nit : ∀ b u, H b = some u → b ∉ fp := fun b u e z => by rw [(hf b z).1] at e; cases e
  refine I.step (g' := s.gens) (d' := s.drawn) (ch := fp) (fun b hb => ?_) (fun b o _ _ hc e _ => k b o hc e) (fun b o _ _ hc e _ => ⟨o.slots, k b o hc e⟩) (fun _ _ _ _ n => n)
    (fun b o hc e => ⟨o, k b o hc e⟩) (fun _ _ e => e) (fun _ _ _ e => e) (fun b ps e => ⟨#[], by rw [e]; simp⟩) (fun m hm => ?_) (fun b u e => ?_) I.bare
  · obtain ⟨q1, q2, q3, q4, q5, q6⟩ := hf b hb
    exact ⟨q4, q2, q5, q6⟩
  · obtain ⟨o, es, ep, ho, r⟩ := hm
    exact ⟨o, es, ep, k _ o (fun z => (hf _ z).2.1 rfl) ho, r⟩
  · refine (I.hok b u e).stay (fun c v hc q => k c v ?_ q) (fun _ q => q) fun _ _ q => q
    rcases hc with z | z
    · rw [z]; exact nit b u e
    · exact nit c _ z
/-- .. and a tuple is new -/
theorem Inv.turnT {X : Cx} {pins : List (Addr × Obj)} {σ : St} {H : Hp} {s : Shared} {h' : Heap} {t' : Nat} {fp : List Addr} {T : Addr} {xs : List V} {its : List Value} (I : Inv X pins σ H s) (hf : ∀ b ∈ fp, FpOk X pins H b) (k : ∀ b o, b ∉ fp → s.heap.get? b = some o → h'.get? b = some o)
    (hT : s.heap.objs.size ≤ T) (hz : xs.length ≤ sizeLine) (r : Vals xs its) (it : IsTup h' T its.toArray) : Inv X pins σ (upd H T (.tup xs)) { s with heap := h', toks := t' } := by
  have hn : H T = none := I.hok.fresh hT
  have a := I.aside hT hn
  exact (I.turnedL (t' := t') hf k).track hn a.ne a.ab a.cl a.pn ⟨hz, its, r, it⟩

/-! ### zip of two lists -/
def Itz (K : PySem.W.Frag) (a b : Addr) : It :=
  ⟨fun i H => ∃ xs ys x y, SqL K H a xs ∧ SqL K H b ys ∧ xs[i]? = some x ∧ ys[i]? = some y,
   fun i H v H' => ∃ T x y, v = .ref T ∧ H T = none ∧ H' = upd H T (.tup [x, y]) ∧ (∀ xs, SqL K H a xs → xs[i]? = some x) ∧ ∀ ys, SqL K H b ys → ys[i]? = some y,
   fun i H => ∃ xs ys, SqL K H a xs ∧ SqL K H b ys ∧ (xs.length ≤ i ∨ ys.length ≤ i)⟩
def ZipSt (z TI TO i1 i2 a b : Addr) (i : Nat) (h : Heap) : Prop := IsZip h z TI TO .none ∧ IsPair h TI (.ref i1) (.ref i2) ∧ (∃ u v, IsPair h TO u v) ∧ h.IsListIter i1 a i ∧ h.IsListIter i2 b i
def iZip2 (K : PySem.W.Frag) (ta : TA) : TI := fun σ H R => ta σ H fun vs H1 => ∃ a b, vs = [.ref a, .ref b] ∧ (∃ xs, SqL K H1 a xs) ∧ (∃ ys, SqL K H1 b ys) ∧ R (Itz K a b) H1
theorem bt_zip : bootBuiltins "zip" = some (.type "zip") := by first | exact PySem.boot_zip | exact PyProof.Rows.boot_zip
section
variable {X : Cx} {elts : List Expr} {kk : Nat} {tp : Pos}
end

/-! ### enumerate of a list -/
def Ite (K : PySem.W.Frag) (a : Addr) : It :=
  ⟨fun i H => ∃ xs x, SqL K H a xs ∧ xs[i]? = some x,
   fun i H v H' => ∃ T x, v = .ref T ∧ H T = none ∧ H' = upd H T (.tup [.int i, x]) ∧ (∀ xs, SqL K H a xs → xs[i]? = some x),
   fun i H => ∃ xs, SqL K H a xs ∧ xs.length ≤ i⟩
def iEnum (K : PySem.W.Frag) (ta : TA) : TI := fun σ H R => ta σ H fun vs H1 => ∃ a, vs = [.ref a] ∧ (∃ xs, H1 a = some (.lst xs)) ∧ R (Ite K a) H1
section
variable {X : Cx} {elts : List Expr} {kk : Nat} {tp : Pos}
end
end L2

set_option Elab.async false
set_option linter.all false
set_option maxRecDepth 100000
namespace L2
open PySem PySem.Spec PyProof.Rows
section
variable {prog : Program} {w : World} {A : Around} {E : Value → Shared → Prop} {s : Shared}
theorem min_raw {l : Addr} {vs : List Value} {ns : List Int} {Q : Value → Shared → Prop} (hh : A.handled = none) (hl : s.heap.IsList l vs.toArray) (hi : IntsAre vs ns) (hne : 0 < ns.length)
    (h : ∀ h' M (t : Tok) tk, (∀ b o, s.heap.get? b = some o → h'.get? b = some o) → M ∈ ns → (∀ a, a ∈ ns → M ≤ a) → Q (.int M t) { s with heap := h', toks := tk }) : wpAny (model prog w) A (call (.builtin "min") [.ref l]) Q E s := by
  obtain ⟨xs, e⟩ := hi.allInts.items
  have hns : ns = xs.toList.map (·.1) := by
    rw [← hi.numsOf, ← nums_intItems, ← e]
  have hsz : 0 < xs.size := by
    have h3 := hne; rw [hns, List.length_map, Array.length_toList] at h3; exact h3
  rw [e] at hl
  refine min_intList hh hl hsz fun v h' tk hv hk => ?_
  obtain ⟨t, rfl⟩ := intItems_at hv
  obtain ⟨h1, h2⟩ := argBest_lt (numAt xs) (xs.size - 1)
  refine h _ _ t tk hk ?_ fun a ha => ?_
  · rw [hns, numAt_eq]; exact PySem.getD_mem (by rw [List.length_map, Array.length_toList]; omega)
  · rw [hns] at ha
    obtain ⟨j, hj, rfl⟩ := mem_getD ha
    rw [List.length_map, Array.length_toList] at hj
    rw [← numAt_eq]; exact h2 j (by omega)
theorem max_raw {l : Addr} {vs : List Value} {ns : List Int} {Q : Value → Shared → Prop} (hh : A.handled = none) (hl : s.heap.IsList l vs.toArray) (hi : IntsAre vs ns) (hne : 0 < ns.length)
    (h : ∀ h' M (t : Tok) tk, (∀ b o, s.heap.get? b = some o → h'.get? b = some o) → M ∈ ns → (∀ a, a ∈ ns → a ≤ M) → Q (.int M t) { s with heap := h', toks := tk }) : wpAny (model prog w) A (call (.builtin "max") [.ref l]) Q E s := by
  obtain ⟨xs, e⟩ := hi.allInts.items
  have hns : ns = xs.toList.map (·.1) := by
    rw [← hi.numsOf, ← nums_intItems, ← e]
  have hsz : 0 < xs.size := by
    have h3 := hne; rw [hns, List.length_map, Array.length_toList] at h3; exact h3
  rw [e] at hl
  refine max_intList hh hl hsz fun v h' tk hv hk => ?_
  obtain ⟨t, rfl⟩ := intItems_at hv
  obtain ⟨h1, h2⟩ := argBest_gt (numAt xs) (xs.size - 1)
  refine h _ _ t tk hk ?_ fun a ha => ?_
  · rw [hns, numAt_eq]; exact PySem.getD_mem (by rw [List.length_map, Array.length_toList]; omega)
  · rw [hns] at ha
    obtain ⟨j, hj, rfl⟩ := mem_getD ha
    rw [List.length_map, Array.length_toList] at hj
    rw [← numAt_eq]; exact h2 j (by omega)
theorem sum_raw {l : Addr} {vs : List Value} {ns : List Int} {Q : Value → Shared → Prop} (hh : A.handled = none) (hl : s.heap.IsList l vs.toArray) (hi : IntsAre vs ns)
    (h : ∀ h' tk t', (∀ b o, s.heap.get? b = some o → h'.get? b = some o) → Q (.int ns.sum t') { s with heap := h', toks := tk }) : wpAny (model prog w) A (call (.builtin "sum") [.ref l]) Q E s := by
  obtain ⟨xs, hx⟩ := hi.allInts.items
  have hl' : s.heap.IsList l (intItems xs) := hx ▸ hl
  refine sum_intListG hh hl' fun h' tk t' hk => ?_
  have e1 : ns = xs.toList.map (·.1) := by
    rw [← nums_intItems, ← hx]
    exact (show numsOf vs.toArray.toList = ns from hi.numsOf).symm
  have e2 : preSum (numAt xs) xs.size = ns.sum := by
    rw [preSum_eq, List.take_of_length_le (by simp), e1]
  rw [e2]
  exact h h' tk t' hk
end
def rSum (K : PySem.W.Frag) : List V → Hp → VK → Prop := fun xs H Q => ∃ p ns, xs = [.ref p] ∧ SqL K H p (iL ns) ∧ Q (.int ns.sum) H
def rMin (K : PySem.W.Frag) : List V → Hp → VK → Prop := fun xs H Q => (∃ i j, xs = [.int i, .int j] ∧ Q (.int (if j < i then j else i)) H) ∨ ∃ p ns, xs = [.ref p] ∧ SqL K H p (iL ns) ∧ 0 < ns.length ∧ ∀ m, m ∈ ns → (∀ a ∈ ns, m ≤ a) → Q (.int m) H
def rMax (K : PySem.W.Frag) : List V → Hp → VK → Prop := fun xs H Q => (∃ i j, xs = [.int i, .int j] ∧ Q (.int (if j > i then j else i)) H) ∨ ∃ p ns, xs = [.ref p] ∧ SqL K H p (iL ns) ∧ 0 < ns.length ∧ ∀ m, m ∈ ns → (∀ a ∈ ns, a ≤ m) → Q (.int m) H
def rSorted (K : PySem.W.Frag) : List V → Hp → VK → Prop := fun xs H Q => ∃ p ns, xs = [.ref p] ∧ SqL K H p (iL ns) ∧ ns.length < 64 ∧ ∀ l ms, H l = none → ms.Perm ns → ms.Pairwise (· ≤ ·) → Q (.ref l) (upd H l (.lst (iL ms)))
section
variable {X : Cx}
theorem call_sumN (hc : X.calm = true) : CallR X (.builtin "sum") (rSum X.K) := by
  intro pins s σ H xs us Q I r h
  obtain ⟨p, ns, rfl, hq, q⟩ := h
  obtain ⟨u, rfl, ru⟩ := vals1 r
  cases ru
  obtain ⟨its, rv, pl, hz⟩ := I.list hq
  exact sum_raw (I.ok.hd hc) pl.isList (intsAre_of rv) fun h' tk t' hk => ⟨.int _, H, I.kept (t' := tk) hk, ⟨_, rfl⟩, q⟩
theorem call_minN (hc : X.calm = true) : CallR X (.builtin "min") (rMin X.K) := by
  intro pins s σ H xs us Q I r h
  rcases h with h | ⟨p, ns, rfl, hq, hne, q⟩
  · exact call_min2 hc pins s σ H xs us Q I r h
  · obtain ⟨u, rfl, ru⟩ := vals1 r
    cases ru
    obtain ⟨its, rv, pl, hz⟩ := I.list hq
    exact min_raw (I.ok.hd hc) pl.isList (intsAre_of rv) hne fun h' M t tk hk h1 h2 => ⟨.int M, H, I.kept (t' := tk) hk, ⟨_, rfl⟩, q M h1 h2⟩
theorem call_maxN (hc : X.calm = true) : CallR X (.builtin "max") (rMax X.K) := by
  intro pins s σ H xs us Q I r h
  rcases h with h | ⟨p, ns, rfl, hq, hne, q⟩
  · exact call_max2 hc pins s σ H xs us Q I r h
  · obtain ⟨u, rfl, ru⟩ := vals1 r
    cases ru
    obtain ⟨its, rv, pl, hz⟩ := I.list hq
    exact max_raw (I.ok.hd hc) pl.isList (intsAre_of rv) hne fun h' M t tk hk h1 h2 => ⟨.int M, H, I.kept (t' := tk) hk, ⟨_, rfl⟩, q M h1 h2⟩
theorem call_sortedN : CallR X (.builtin "sorted") (rSorted X.K) := by
  intro pins s σ H xs us Q I r h
  obtain ⟨p, ns, rfl, hq, h64, q⟩ := h
  obtain ⟨u, rfl, ru⟩ := vals1 r
  cases ru
  obtain ⟨its, rv, pl, hz⟩ := I.list hq
  have hl : its.length < 64 := by rw [← rv.length]; simpa [iL] using h64
  refine sorted_ints pl.isList (intsAre_of rv) hl fun out ns' a1 a2 a3 => ?_
  obtain ⟨e, he⟩ := sortedAll_at s.heap its out
  have hn : H (s.heap.objs.size + 1) = none := I.hok.fresh (Nat.le_succ _)
  have I1 := I.kept (t' := s.toks) (h' := sortedAll s.heap its out) (fun _ _ => sortedAll_old)
  have a := I.aside (Nat.le_succ s.heap.objs.size) hn
  have v : Vals (iL ns') out.toList := vals_ints a1
  have lz : (iL ns').length ≤ sizeLine := by
    have e1 := a2.length_eq
    have : (iL ns').length = ns'.length := by simp [iL]
    rw [this, e1]
    exact szl (by omega)
  refine ⟨.ref (s.heap.objs.size + 1), upd H (s.heap.objs.size + 1) (.lst (iL ns')), I1.track hn a.ne a.ab a.cl a.pn ⟨lz, out.toList, e, v, ?_⟩, rfl, q _ ns' hn a2 a3⟩
  simpa [seqObj] using he
end
section
variable {K : PySem.W.Frag} {H : Hp} {Q : VK} {p : Addr} {ns : List Int} {i j : Int}
theorem i_sum (h : SqL K H p (iL ns)) (q : Q (.int ns.sum) H) : rSum K [.ref p] H Q := ⟨p, ns, rfl, h, q⟩
theorem i_min2 (q : ∀ m, m = min i j → Q (.int m) H) : rMin K [.int i, .int j] H Q := .inl ⟨i, j, rfl, q _ (by split <;> omega)⟩
theorem i_max2 (q : ∀ m, m = max i j → Q (.int m) H) : rMax K [.int i, .int j] H Q := .inl ⟨i, j, rfl, q _ (by split <;> omega)⟩
theorem i_minL (h : SqL K H p (iL ns)) (hn : 0 < ns.length) (q : ∀ m, m ∈ ns → (∀ a ∈ ns, m ≤ a) → Q (.int m) H) : rMin K [.ref p] H Q := .inr ⟨p, ns, rfl, h, hn, q⟩
theorem i_maxL (h : SqL K H p (iL ns)) (hn : 0 < ns.length) (q : ∀ m, m ∈ ns → (∀ a ∈ ns, a ≤ m) → Q (.int m) H) : rMax K [.ref p] H Q := .inr ⟨p, ns, rfl, h, hn, q⟩
end

/-! ### loops over zip, enumerate; comprehensions by an invariant -/
section
variable {K : PySem.W.Frag} {g : TG} {tb : TS} {D : Ends} {σ : St} {H : Hp}
end
section
variable {K : PySem.W.Frag} {g : TG} {ti : TT} {te : TE} {σc : St} {H : Hp} {Q : VK}
theorem cp_list {a : Addr} {xs : List V} (Pv : Nat → List V → Hp → Prop) (h0 : Pv 0 [] H) (hl : ∀ i ys H, Pv i ys H → SqL K H a xs ∧ ys.length ≤ i) (hx : xs.length < sizeLine)
    (hs : ∀ i x ys H, xs[i]? = some x → Pv i ys H → g x σc H fun σ2 H2 => ti σ2 H2 fun b H3 => if b = true then te σ2 H3 fun y H4 => Pv (i + 1) (ys ++ [y]) H4 else Pv (i + 1) ys H3)
    (hd : ∀ l ys H, Pv xs.length ys H → H l = none → Q (.ref l) (upd H l (.lst ys))) : CompI (Itl K a) g ti te σc H Q := by
  refine ⟨fun i m ys H => m = xs.length - i ∧ i ≤ xs.length ∧ Pv i ys H, ⟨_, rfl, Nat.zero_le _, h0⟩, ?_⟩
  rintro i m ys H ⟨rfl, hi, p⟩
  obtain ⟨q, hy⟩ := hl i ys H p
  refine ⟨by omega, ?_⟩
  by_cases hlt : i < xs.length
  · refine .inr ⟨⟨xs, xs[i], q, by simp [hlt]⟩, Pv (i + 1), fun σ' H' p' => ⟨_, by omega, rfl, hlt, p'⟩, fun x H' y => ?_⟩
    obtain ⟨e, y⟩ := y
    subst e
    exact hs i x ys _ (y xs q) p
  · have e : i = xs.length := by omega
    subst e
    exact .inl ⟨⟨xs, q, Nat.le_refl _⟩, fun l hl => hd l ys H p hl⟩
theorem cp_range {lo : Int} {n : Nat} (Pv : Nat → List V → Hp → Prop) (h0 : Pv 0 [] H) (hl : ∀ i ys H, Pv i ys H → ys.length ≤ i) (hx : n < sizeLine)
    (hs : ∀ i ys H, i < n → Pv i ys H → g (.int (lo + i)) σc H fun σ2 H2 => ti σ2 H2 fun b H3 => if b = true then te σ2 H3 fun y H4 => Pv (i + 1) (ys ++ [y]) H4 else Pv (i + 1) ys H3)
    (hd : ∀ l ys H, Pv n ys H → H l = none → Q (.ref l) (upd H l (.lst ys))) : CompI (Itr lo n) g ti te σc H Q := by
  refine ⟨fun i m ys H => m = n - i ∧ i ≤ n ∧ Pv i ys H, ⟨_, rfl, Nat.zero_le _, h0⟩, ?_⟩
  rintro i m ys H ⟨rfl, hi, p⟩
  have hy := hl i ys H p
  refine ⟨by omega, ?_⟩
  by_cases hlt : i < n
  · refine .inr ⟨hlt, Pv (i + 1), fun σ' H' p' => ⟨_, by omega, rfl, hlt, p'⟩, fun x H' y => ?_⟩
    obtain ⟨e, y⟩ := y
    subst e y
    exact hs i ys _ hlt p
  · have e : i = n := by omega
    subst e
    exact .inl ⟨Nat.le_refl _, fun l hl => hd l ys H p hl⟩
end
end L2
namespace L2
open PySem PySem.Spec PyProof.Rows
theorem fr_nil {X : Cx} {sc : Scope} : FrOk X sc [] [] := trivial
theorem fr_none {X : Cx} {sc : Scope} {x : Str} {N : List Str} {fr : List (Option Nat)} (h : FrOk X sc N fr) : FrOk X sc (x :: N) (none :: fr) := h
theorem fr_some {X : Cx} {sc : Scope} {x : Str} {N : List Str} {fr : List (Option Nat)} {j : Nat} (h1 : X.N[j]? = some x) (h2 : X.env.kindOf x = some .cell ∨ X.env.kindOf x = some .free) (h3 : sc.names.lookup x = some .free) (h : FrOk X sc N fr) : FrOk X sc (x :: N) (some j :: fr) := ⟨⟨h1, h2, h3⟩, h⟩
end L2
namespace L2
open PySem PySem.Spec PyProof.Rows
/-! ### the same rules with K said apart (a block's context hides it) -/
section
variable {X : Cx} (K : PySem.W.Frag) {tg l : Expr} {tl : TE} {pos p : Pos}
theorem op_eqK (hu : X.A.units + 64 < cLine) (hK : X.K = K := by rfl) : OpR X (compareOp .Eq) (rEqP K) := by subst hK; exact op_eqP hu
theorem op_neK (hu : X.A.units + 64 < cLine) (hK : X.K = K := by rfl) : OpR X (compareOp .NotEq) (rNeP K) := by subst hK; exact op_neP hu
theorem ix_K (hK : X.K = K := by rfl) : IxR X (rIxP K) := by subst hK; exact ix_P
theorem sl_listK (hK : X.K = K := by rfl) : SlR X (rSlL K) := by subst hK; exact sl_list
theorem call_lenK (hK : X.K = K := by rfl) : CallR X (.builtin "len") (rLen K) := by subst hK; exact call_lenN
theorem call_isinstanceK (hK : X.K = K := by rfl) : CallR X (.builtin "isinstance") (rIsi K) := by subst hK; exact call_isinstanceN
theorem call_listK (hK : X.K = K := by rfl) : CallR X (.type "list") (rListOf K) := by subst hK; exact call_listN
theorem call_sumK (hc : X.calm = true := by rfl) (hK : X.K = K := by rfl) : CallR X (.builtin "sum") (rSum K) := by subst hK; exact call_sumN hc
theorem call_minK (hc : X.calm = true := by rfl) (hK : X.K = K := by rfl) : CallR X (.builtin "min") (rMin K) := by subst hK; exact call_minN hc
theorem call_maxK (hc : X.calm = true := by rfl) (hK : X.K = K := by rfl) : CallR X (.builtin "max") (rMax K) := by subst hK; exact call_maxN hc
theorem call_intK : CallR X (.type "int") rIntOf := call_intN
theorem call_absK : CallR X (.builtin "abs") rAbs := call_absN
theorem pi_listK (hl : PE X l tl) (hK : X.K = K := by rfl) : PI X tg l (iList K tl) := by subst hK; exact pi_list hl
theorem pg_tupK {es : List Expr} {k : Nat} {t : TGs} (n : Nat) (h : PGs X es t) (hc : X.calm = true := by rfl) (hn : (assignEach es X.env).length = n := by rfl) (hst : (assignEach es X.env).findIdx? (·.1) = none := by rfl) (hK : X.K = K := by rfl) : PG X (.Tuple es k pos) (gTup K n t) := by
  subst hK; exact pg_tup hc h hn hst
theorem pt_truthK {a : Expr} {ta : TE} (ha : PE X a ta) (he : ∀ whole, isTrue a X.env whole = (do let v ← whole; standAt a.pos; holding [v] (truthy v)) := by intro _; rfl) (hK : X.K = K := by rfl) : PT X a (tTru K ta) := by
  subst hK; exact pt_truthN ha he
theorem pe_bmK {o e : Expr} {es : List Expr} {to : TE} {t : TA} {name : Str} {apos cpos : Pos} {T id : String} {r : V → List V → Hp → VK → Prop} (pa : PlainAttrs T) (slot : Slot T name id) (hty : typeOf (.builtin id) = pure (.type "method_descriptor")) (hm : MtR X id r) (ho : PE X o to) (ha : PA X (e :: es) t)
    (hbase : attributeBase o name X.env (eval o X.env) = eval o X.env := by rfl)
    (hfew : ((backTo cpos (starEach (e :: es) X.env)).all (fun x => !x.1) && (backToKw cpos (keywordEach [] X.env)).all (fun x => x.1.isSome)
      && decide ((e :: es).length + ([] : List Keyword).length + (if ([] : List Keyword).isEmpty then 0 else 1) < 30)) = true := by rfl)
    (hline : (apos.endLine == cpos.line) = true := by rfl) (hs : starEach (e :: es) X.env = (false, eval e X.env) :: starEach es X.env := by rfl) (hplain : (backTo cpos (starEach es X.env)).any (·.1) = false := by rfl) (hK : X.K = K := by rfl) :
    PE X (.Call (.Attribute o name apos) (e :: es) [] cpos) (tBM K T r to t) := by
  subst hK; exact pe_bm pa slot hty hm ho ha hbase hfew hline hs hplain
theorem pe_bm0K {o : Expr} {to : TE} {name : Str} {apos cpos : Pos} {T id : String} {r : V → List V → Hp → VK → Prop} (pa : PlainAttrs T) (slot : Slot T name id) (hty : typeOf (.builtin id) = pure (.type "method_descriptor")) (hm : MtR X id r) (ho : PE X o to)
    (hbase : attributeBase o name X.env (eval o X.env) = eval o X.env := by rfl) (hline : (apos.endLine == cpos.line) = true := by rfl) (hK : X.K = K := by rfl) : PE X (.Call (.Attribute o name apos) [] [] cpos) (tBM0 K T r to) := by
  subst hK; exact pe_bm0 pa slot hty hm ho hbase hline
end
end L2
namespace L2
open PySem PySem.Spec PyProof.Rows
section
variable {K : PySem.W.Frag} {H : Hp} {Q : VK} {n : Nat}
theorem pd_tup {t : Addr} {ds : List PyData} {xs : List V} (h : SqT K H t xs) (p : Paired (PdAt K H n) ds xs) : PdAt K H (n + 1) (.tuple ds) (.ref t) := ⟨t, xs, rfl, h, p⟩
theorem pd_lst {t : Addr} {ds : List PyData} {xs : List V} (h : SqL K H t xs) (p : Paired (PdAt K H n) ds xs) : PdAt K H (n + 1) (.list ds) (.ref t) := ⟨t, xs, rfl, h, p⟩
theorem i_neSame {x y : V} (d : PyData) (hx : PdAt K H 9 d x) (hy : PdAt K H 9 d y) (q : Q (.bl false) H) : rNeP K x y H Q := ⟨d, d, hx, hy, by
  rw [PySem.SeqAt.eqv_refl d (pd_shape 9 d x hx).1]; exact q⟩
theorem i_eqSame {x y : V} (d : PyData) (hx : PdAt K H 9 d x) (hy : PdAt K H 9 d y) (q : Q (.bl true) H) : rEqP K x y H Q := ⟨d, d, hx, hy, by
  rw [PySem.SeqAt.eqv_refl d (pd_shape 9 d x hx).1]; exact q⟩
end
end L2
namespace L2
open PySem PySem.Spec PyProof.Rows
theorem i_popS {H : Hp} {Q : VK} {l : Addr} {xs : List V} {y : V} (h : H l = some (.lst (xs ++ [y]))) (q : Q y (upd H l (.lst xs))) : rPop (.ref l) [] H Q := ⟨l, _, y, rfl, rfl, h, by simp, by simpa using q⟩
end L2


set_option Elab.async false
set_option linter.all false
set_option maxRecDepth 100000
namespace L2
open PySem PySem.Spec PyProof.Rows

/-! ### zip of three lists: the iterators at n, n+1, n+2, their tuple at n+3, the kept tuple at n+4, the zip at n+5 -/
abbrev IsTrip (h : Heap) (T : Addr) (a b c : Value) : Prop := h.get? T = some { cls := .type "tuple", data := .seq #[a, b, c] }
section
variable {prog : Program} {w : World} {A : Around} {E : Value → Shared → Prop} {s : Shared}
theorem upd_trip {T : Addr} {a b c x : Value} {k : Nat} {Q : Unit → Shared → Prop} (hT : IsTrip s.heap T a b c)
    (h : ∀ h', h'.get? T = some { cls := .type "tuple", data := .seq ((#[a, b, c] : Array Value).setIfInBounds k x) } → Heap.SameBut T s.heap h' → Q () { s with heap := h' }) :
    wpAny (model prog w) A (updateSeq T (·.setIfInBounds k x)) Q E s := by
  refine wpAny_updateSeq hT rfl (h _ ?_ (Heap.SameBut.update ..))
  rw [Heap.get?_update_self _ hT rfl]
  simp [Obj.mapSeq]
local macro_rules | `(tactic| walk_at "ne") => `(tactic| (show @Ne Nat _ _; omega))
theorem zip3_item {n l1 l2 l3 : Nat} {k : Nat} {xs ys zs : Array Value} {x y q a b c : Value} {Q : Value → Shared → Prop} (n1 : l1 < n) (n2 : l2 < n) (n3 : l3 < n)
    (hz : IsZip s.heap (n + 5) (n + 3) (n + 4) .none) (hTI : IsTrip s.heap (n + 3) (.ref n) (.ref (n + 1)) (.ref (n + 2))) (hTO : IsTrip s.heap (n + 4) a b c)
    (h1 : s.heap.IsListIter n l1 k) (h2 : s.heap.IsListIter (n + 1) l2 k) (h3 : s.heap.IsListIter (n + 2) l3 k) (hl1 : s.heap.IsList l1 xs) (hl2 : s.heap.IsList l2 ys) (hl3 : s.heap.IsList l3 zs) (hx : xs[k]? = some x) (hy : ys[k]? = some y) (hq : zs[k]? = some q)
    (hQ : ∀ h', IsZip h' (n + 5) (n + 3) (n + 4) (rawInt s.heap.objs.size) → IsTrip h' (n + 4) x y q → h'.IsListIter n l1 (k + 1) → h'.IsListIter (n + 1) l2 (k + 1) → h'.IsListIter (n + 2) l3 (k + 1) → IsTrip h' s.heap.objs.size x y q →
      (∀ d o, d ≠ n → d ≠ n + 1 → d ≠ n + 2 → d ≠ n + 4 → d ≠ n + 5 → s.heap.get? d = some o → h'.get? d = some o) → Q (.ref s.heap.objs.size) { s with heap := h' }) :
    wpAny (model prog w) A (Builtin.«zip.__next__» ⟨[.ref (n + 5)], []⟩) (fun fin s' => ∃ v, fin = .done (.ret v) ∧ Q v s') E s := by
  show wpAny _ _ (field (.ref (n + 5)) 2 >>= _) _ _ _
  refine wpAny_bind (wpAny_field hz rfl (x := .bool false) rfl ?_)
  show wpAny _ _ (field (.ref (n + 5)) 3 >>= _) _ _ _
  refine wpAny_bind (wpAny_field hz rfl (x := .ref (n + 3)) rfl ?_)
  refine wpAny_bind (wpAny_seqItems hTI rfl ?_)
  show wpAny _ _ (Builtin.SmallTypes.ownedTupleIsFree (.ref (n + 5)) >>= _) _ _ _
  refine wpAny_bind ?_
  unfold Builtin.SmallTypes.ownedTupleIsFree
  refine wpAny_bind (wpAny_field hz rfl (x := .none) rfl (wpAny_pure ?_))
  simp only [if_true]
  refine wpAny_bind (wpAny_rule ?_)
  refine wpAny_bind (wpAny_field hz rfl (x := .ref (n + 4)) rfl ?_)
  refine wpAny_bind (wpAny_setField_rec hz (by simp) fun g1 hz1 t1 => ?_)
  replace hz1 : IsZip g1 (n + 5) (n + 3) (n + 4) .ellipsis := hz1
  refine wpAny_bind ?_
  simp only [List.zipIdx_cons, List.zipIdx_nil, List.forIn_cons, List.forIn_nil]
  refine wpAny_bind (wpAny_bind (wpAny_onRaise ?_))
  show wpAny _ _ (Builtin.SmallTypes.nextOf (.ref n) >>= _) _ _ _
  refine wpAny_bind (wpAny_nextOf_list_item (h1.extBut t1.extBut (by walk_at "ne")) (hl1.extBut t1.extBut (by walk_at "ne")) hx fun g2 u1 t2 => wpAny_pure ?_)
  have o2 : IsTrip g2 (n + 4) a b c := t2.extBut _ _ (by walk_at "ne") (t1.extBut _ _ (by walk_at "ne") hTO)
  refine wpAny_bind (wpAny_seqItems o2 rfl ?_)
  refine wpAny_bind (upd_trip o2 fun g3 o3 t3 => ?_)
  replace o3 : IsTrip g3 (n + 4) x b c := o3
  refine wpAny_bind (wpAny_letGo (wpAny_pure ?_))
  refine wpAny_bind (wpAny_bind (wpAny_onRaise ?_))
  show wpAny _ _ (Builtin.SmallTypes.nextOf (.ref (n + 1)) >>= _) _ _ _
  refine wpAny_bind (wpAny_nextOf_list_item (((h2.extBut t1.extBut (by walk_at "ne")).extBut t2.extBut (by walk_at "ne")).extBut t3.extBut (by walk_at "ne")) (((hl2.extBut t1.extBut (by walk_at "ne")).extBut t2.extBut (by walk_at "ne")).extBut t3.extBut (by walk_at "ne")) hy fun g4 u2 t4 => wpAny_pure ?_)
  have o4 : IsTrip g4 (n + 4) x b c := t4.extBut _ _ (by walk_at "ne") o3
  refine wpAny_bind (wpAny_seqItems o4 rfl ?_)
  refine wpAny_bind (upd_trip o4 fun g5 o5 t5 => ?_)
  replace o5 : IsTrip g5 (n + 4) x y c := o5
  refine wpAny_bind (wpAny_letGo (wpAny_pure ?_))
  refine wpAny_bind (wpAny_bind (wpAny_onRaise ?_))
  show wpAny _ _ (Builtin.SmallTypes.nextOf (.ref (n + 2)) >>= _) _ _ _
  refine wpAny_bind (wpAny_nextOf_list_item (((((h3.extBut t1.extBut (by walk_at "ne")).extBut t2.extBut (by walk_at "ne")).extBut t3.extBut (by walk_at "ne")).extBut t4.extBut (by walk_at "ne")).extBut t5.extBut (by walk_at "ne")) (((((hl3.extBut t1.extBut (by walk_at "ne")).extBut t2.extBut (by walk_at "ne")).extBut t3.extBut (by walk_at "ne")).extBut t4.extBut (by walk_at "ne")).extBut t5.extBut (by walk_at "ne")) hq fun g6 u3 t6 => wpAny_pure ?_)
  have o6 : IsTrip g6 (n + 4) x y c := t6.extBut _ _ (by walk_at "ne") o5
  refine wpAny_bind (wpAny_seqItems o6 rfl ?_)
  refine wpAny_bind (upd_trip o6 fun g7 o7 t7 => ?_)
  replace o7 : IsTrip g7 (n + 4) x y q := o7
  refine wpAny_bind (wpAny_letGo (wpAny_pure (wpAny_pure ?_)))
  refine wpAny_bind (wpAny_seqItems o7 rfl ?_)
  refine wpAny_bind (wpAny_newTuple ?_)
  have hsz : g7.objs.size = s.heap.objs.size := by rw [t7.1, t6.1, t5.1, t4.1, t3.1, t2.1, t1.1]
  have z7 : IsZip g7 (n + 5) (n + 3) (n + 4) .ellipsis := t7.extBut _ _ (by walk_at "ne") (t6.extBut _ _ (by walk_at "ne") (t5.extBut _ _ (by walk_at "ne") (t4.extBut _ _ (by walk_at "ne") (t3.extBut _ _ (by walk_at "ne") (t2.extBut _ _ (by walk_at "ne") hz1)))))
  have hk7 : ∀ d o, d ≠ n → d ≠ n + 1 → d ≠ n + 2 → d ≠ n + 4 → d ≠ n + 5 → s.heap.get? d = some o → g7.get? d = some o := fun d o d1 d2 d3 d4 d5 e =>
    t7.extBut _ _ d4 (t6.extBut _ _ d3 (t5.extBut _ _ d4 (t4.extBut _ _ d2 (t3.extBut _ _ d4 (t2.extBut _ _ d1 (t1.extBut _ _ d5 e))))))
  have v1 : g7.IsListIter n l1 (k + 1) := ((((u1.extBut t3.extBut (by walk_at "ne")).extBut t4.extBut (by walk_at "ne")).extBut t5.extBut (by walk_at "ne")).extBut t6.extBut (by walk_at "ne")).extBut t7.extBut (by walk_at "ne")
  have v2 : g7.IsListIter (n + 1) l2 (k + 1) := ((u2.extBut t5.extBut (by walk_at "ne")).extBut t6.extBut (by walk_at "ne")).extBut t7.extBut (by walk_at "ne")
  have v3 : g7.IsListIter (n + 2) l3 (k + 1) := u3.extBut t7.extBut (by walk_at "ne")
  have lz : n + 5 < g7.objs.size := Heap.lt_size z7
  show wpAny _ _ (Builtin.SmallTypes.ownedTupleHandOut (.ref (n + 5)) (.ref g7.objs.size) >>= _) _ _ _
  refine wpAny_bind ?_
  unfold Builtin.SmallTypes.ownedTupleHandOut
  have z8 : IsZip (g7.push { cls := .type "tuple", data := .seq #[x, y, q] }) (n + 5) (n + 3) (n + 4) .ellipsis := Heap.get?_push_of_some _ z7
  refine wpAny_bind (wpAny_setField_rec z8 (by simp) fun g9 z9 t9 => ?_)
  replace z9 : IsZip g9 (n + 5) (n + 3) (n + 4) (rawInt g7.objs.size) := z9
  refine wpAny_setField_rec z9 (by simp) fun g10 z10 t10 => ?_
  replace z10 : IsZip g10 (n + 5) (n + 3) (n + 4) (rawInt g7.objs.size) := z10
  have up : ∀ d o, d ≠ n + 5 → g7.get? d = some o → g10.get? d = some o := fun d o d1 e => t10.extBut _ _ d1 (t9.extBut _ _ d1 (Heap.get?_push_of_some _ e))
  have hT : IsTrip g10 g7.objs.size x y q := t10.extBut _ _ (Nat.ne_of_gt lz) (t9.extBut _ _ (Nat.ne_of_gt lz) (Heap.get?_push_size _ rfl))
  rw [hsz] at z10 hT ⊢
  refine wpAny_pure ⟨_, rfl, ?_⟩
  exact hQ g10 z10 (up _ _ (by walk_at "ne") o7) (v1.at fun o e => up _ o (by walk_at "ne") e) (v2.at fun o e => up _ o (by walk_at "ne") e) (v3.at fun o e => up _ o (by walk_at "ne") e) hT fun d o d1 d2 d3 d4 d5 e => up d o d5 (hk7 d o d1 d2 d3 d4 d5 e)
end
end L2
namespace L2
open PySem PySem.Spec PyProof.Rows
local macro_rules | `(tactic| walk_at "ne") => `(tactic| (show @Ne Nat _ _; omega))
section
variable {prog : Program} {w : World} {A : Around} {E : Value → Shared → Prop} {s : Shared}
theorem zip3_end {n l1 l2 l3 : Nat} {k : Nat} {xs ys zs : Array Value} {a b c : Value} {Q : Fin → Shared → Prop} (hh : A.handled = none) (n1 : l1 < n) (n2 : l2 < n) (n3 : l3 < n)
    (hz : IsZip s.heap (n + 5) (n + 3) (n + 4) .none) (hTI : IsTrip s.heap (n + 3) (.ref n) (.ref (n + 1)) (.ref (n + 2))) (hTO : IsTrip s.heap (n + 4) a b c)
    (h1 : s.heap.IsListIter n l1 k) (h2 : s.heap.IsListIter (n + 1) l2 k) (h3 : s.heap.IsListIter (n + 2) l3 k) (hl1 : s.heap.IsList l1 xs) (hl2 : s.heap.IsList l2 ys) (hl3 : s.heap.IsList l3 zs) (hend : xs[k]? = none ∨ ys[k]? = none ∨ zs[k]? = none)
    (hE : ∀ h' e, (∀ d o, d ≠ n → d ≠ n + 1 → d ≠ n + 2 → d ≠ n + 4 → d ≠ n + 5 → s.heap.get? d = some o → h'.get? d = some o) → (∃ o, h'.get? e = some o ∧ o.cls = .type "StopIteration") → E (.ref e) { s with heap := h' }) :
    wpAny (model prog w) A (Builtin.«zip.__next__» ⟨[.ref (n + 5)], []⟩) Q E s := by
  show wpAny _ _ (field (.ref (n + 5)) 2 >>= _) _ _ _
  refine wpAny_bind (wpAny_field hz rfl (x := .bool false) rfl ?_)
  show wpAny _ _ (field (.ref (n + 5)) 3 >>= _) _ _ _
  refine wpAny_bind (wpAny_field hz rfl (x := .ref (n + 3)) rfl ?_)
  refine wpAny_bind (wpAny_seqItems hTI rfl ?_)
  show wpAny _ _ (Builtin.SmallTypes.ownedTupleIsFree (.ref (n + 5)) >>= _) _ _ _
  refine wpAny_bind ?_
  unfold Builtin.SmallTypes.ownedTupleIsFree
  refine wpAny_bind (wpAny_field hz rfl (x := .none) rfl (wpAny_pure ?_))
  simp only [if_true]
  refine wpAny_bind (wpAny_rule ?_)
  refine wpAny_bind (wpAny_field hz rfl (x := .ref (n + 4)) rfl ?_)
  refine wpAny_bind (wpAny_setField_rec hz (by simp) fun g1 hz1 t1 => ?_)
  replace hz1 : IsZip g1 (n + 5) (n + 3) (n + 4) .ellipsis := hz1
  refine wpAny_bind ?_
  simp only [List.zipIdx_cons, List.zipIdx_nil, List.forIn_cons, List.forIn_nil]
  refine wpAny_bind (wpAny_bind (wpAny_onRaise ?_))
  show wpAny _ _ (Builtin.SmallTypes.nextOf (.ref n) >>= _) _ _ _
  cases hx : xs[k]? with
  | none =>
    refine wpAny_bind (wpAny_nextOf_list_end hh (h1.extBut t1.extBut (by walk_at "ne")) (hl1.extBut t1.extBut (by walk_at "ne")) hx fun g2 e t2 he => ?_)
    obtain ⟨oe, hoe, hce⟩ := he
    have hz2 : IsZip g2 (n + 5) (n + 3) (n + 4) .ellipsis := t2 _ _ (by walk_at "ne") hz1
    have hez : e ≠ n + 5 := fun x => by subst x; rw [hz2] at hoe; cases hoe; simp at hce
    exact wpAny_setField_rec hz2 (by simp) fun g3 _ t3 => hE g3 e (fun d o d1 _ _ _ d5 x => t3.extBut _ _ d5 (t2 _ _ d1 (t1.extBut _ _ d5 x))) ⟨oe, t3.extBut _ _ hez hoe, hce⟩
  | some x =>
    refine wpAny_bind (wpAny_nextOf_list_item (h1.extBut t1.extBut (by walk_at "ne")) (hl1.extBut t1.extBut (by walk_at "ne")) hx fun g2 u1 t2 => wpAny_pure ?_)
    have o2 : IsTrip g2 (n + 4) a b c := t2.extBut _ _ (by walk_at "ne") (t1.extBut _ _ (by walk_at "ne") hTO)
    refine wpAny_bind (wpAny_seqItems o2 rfl ?_)
    refine wpAny_bind (upd_trip o2 fun g3 o3 t3 => ?_)
    replace o3 : IsTrip g3 (n + 4) x b c := o3
    refine wpAny_bind (wpAny_letGo (wpAny_pure ?_))
    refine wpAny_bind (wpAny_bind (wpAny_onRaise ?_))
    show wpAny _ _ (Builtin.SmallTypes.nextOf (.ref (n + 1)) >>= _) _ _ _
    have zz3 : IsZip g3 (n + 5) (n + 3) (n + 4) .ellipsis := t3.extBut _ _ (by walk_at "ne") (t2.extBut _ _ (by walk_at "ne") hz1)
    have k3 : ∀ d o, d ≠ n → d ≠ n + 4 → d ≠ n + 5 → s.heap.get? d = some o → g3.get? d = some o := fun d o d1 d4 d5 e => t3.extBut _ _ d4 (t2.extBut _ _ d1 (t1.extBut _ _ d5 e))
    have i2 : g3.IsListIter (n + 1) l2 k := ((h2.extBut t1.extBut (by walk_at "ne")).extBut t2.extBut (by walk_at "ne")).extBut t3.extBut (by walk_at "ne")
    have q2 : g3.IsList l2 ys := ((hl2.extBut t1.extBut (by walk_at "ne")).extBut t2.extBut (by walk_at "ne")).extBut t3.extBut (by walk_at "ne")
    have i3 : g3.IsListIter (n + 2) l3 k := ((h3.extBut t1.extBut (by walk_at "ne")).extBut t2.extBut (by walk_at "ne")).extBut t3.extBut (by walk_at "ne")
    have q3 : g3.IsList l3 zs := ((hl3.extBut t1.extBut (by walk_at "ne")).extBut t2.extBut (by walk_at "ne")).extBut t3.extBut (by walk_at "ne")
    cases hy : ys[k]? with
    | none =>
      refine wpAny_bind (wpAny_nextOf_list_end hh i2 q2 hy fun g4 e t4 he => ?_)
      obtain ⟨oe, hoe, hce⟩ := he
      have hz4 : IsZip g4 (n + 5) (n + 3) (n + 4) .ellipsis := t4 _ _ (by walk_at "ne") zz3
      have hez : e ≠ n + 5 := fun x => by subst x; rw [hz4] at hoe; cases hoe; simp at hce
      exact wpAny_setField_rec hz4 (by simp) fun g5 _ t5 => hE g5 e (fun d o d1 d2 _ d4 d5 x => t5.extBut _ _ d5 (t4 _ _ d2 (k3 d o d1 d4 d5 x))) ⟨oe, t5.extBut _ _ hez hoe, hce⟩
    | some y =>
      have hq : zs[k]? = none := by
        rcases hend with h | h | h
        · rw [hx] at h; cases h
        · rw [hy] at h; cases h
        · exact h
      refine wpAny_bind (wpAny_nextOf_list_item i2 q2 hy fun g4 u2 t4 => wpAny_pure ?_)
      have o4 : IsTrip g4 (n + 4) x b c := t4.extBut _ _ (by walk_at "ne") o3
      refine wpAny_bind (wpAny_seqItems o4 rfl ?_)
      refine wpAny_bind (upd_trip o4 fun g5 o5 t5 => ?_)
      refine wpAny_bind (wpAny_letGo (wpAny_pure ?_))
      refine wpAny_bind (wpAny_bind (wpAny_onRaise ?_))
      show wpAny _ _ (Builtin.SmallTypes.nextOf (.ref (n + 2)) >>= _) _ _ _
      refine wpAny_bind (wpAny_nextOf_list_end hh ((i3.extBut t4.extBut (by walk_at "ne")).extBut t5.extBut (by walk_at "ne")) ((q3.extBut t4.extBut (by walk_at "ne")).extBut t5.extBut (by walk_at "ne")) hq fun g6 e t6 he => ?_)
      obtain ⟨oe, hoe, hce⟩ := he
      have hz6 : IsZip g6 (n + 5) (n + 3) (n + 4) .ellipsis := t6 _ _ (by walk_at "ne") (t5.extBut _ _ (by walk_at "ne") (t4.extBut _ _ (by walk_at "ne") zz3))
      have hez : e ≠ n + 5 := fun x => by subst x; rw [hz6] at hoe; cases hoe; simp at hce
      exact wpAny_setField_rec hz6 (by simp) fun g7 _ t7 => hE g7 e (fun d o d1 d2 d3 d4 d5 x => t7.extBut _ _ d5 (t6 _ _ d3 (t5.extBut _ _ d4 (t4.extBut _ _ d2 (k3 d o d1 d4 d5 x))))) ⟨oe, t7.extBut _ _ hez hoe, hce⟩
theorem next_zip3 {n l1 l2 l3 : Nat} {k : Nat} {xs ys zs : Array Value} {x y q a b c : Value} {Q : Option Value → Shared → Prop} (n1 : l1 < n) (n2 : l2 < n) (n3 : l3 < n)
    (hz : IsZip s.heap (n + 5) (n + 3) (n + 4) .none) (hTI : IsTrip s.heap (n + 3) (.ref n) (.ref (n + 1)) (.ref (n + 2))) (hTO : IsTrip s.heap (n + 4) a b c)
    (h1 : s.heap.IsListIter n l1 k) (h2 : s.heap.IsListIter (n + 1) l2 k) (h3 : s.heap.IsListIter (n + 2) l3 k) (hl1 : s.heap.IsList l1 xs) (hl2 : s.heap.IsList l2 ys) (hl3 : s.heap.IsList l3 zs) (hx : xs[k]? = some x) (hy : ys[k]? = some y) (hq : zs[k]? = some q)
    (hQ : ∀ h', IsZip h' (n + 5) (n + 3) (n + 4) (rawInt s.heap.objs.size) → IsTrip h' (n + 4) x y q → h'.IsListIter n l1 (k + 1) → h'.IsListIter (n + 1) l2 (k + 1) → h'.IsListIter (n + 2) l3 (k + 1) → IsTrip h' s.heap.objs.size x y q →
      (∀ d o, d ≠ n → d ≠ n + 1 → d ≠ n + 2 → d ≠ n + 4 → d ≠ n + 5 → s.heap.get? d = some o → h'.get? d = some o) → Q (some (.ref s.heap.objs.size)) { s with heap := h' }) :
    wpAny (model prog w) A (pyNext (.ref (n + 5))) Q E s := by
  have hT : s.TypeIs (.ref (n + 5)) "zip" := ⟨_, hz, rfl⟩
  unfold pyNext
  exact wpAny_bind (wpAny_attempt (wpAny_callSpecial?_slot (name := Str.ofString "__next__") hT F.slot_zip_next
    (wpAny_call_entry F.slot_zip_next hT F.entry_zip_next
      (zip3_item n1 n2 n3 hz hTI hTO h1 h2 h3 hl1 hl2 hl3 hx hy hq fun h' a1 a2 a3 a4 a5 a6 a7 => wpAny_pure (hQ h' a1 a2 a3 a4 a5 a6 a7)) (F.args_zip_next_1 _))))
theorem next_zip3_end {n l1 l2 l3 : Nat} {k : Nat} {xs ys zs : Array Value} {a b c : Value} {Q : Option Value → Shared → Prop} (hh : A.handled = none) (n1 : l1 < n) (n2 : l2 < n) (n3 : l3 < n)
    (hz : IsZip s.heap (n + 5) (n + 3) (n + 4) .none) (hTI : IsTrip s.heap (n + 3) (.ref n) (.ref (n + 1)) (.ref (n + 2))) (hTO : IsTrip s.heap (n + 4) a b c)
    (h1 : s.heap.IsListIter n l1 k) (h2 : s.heap.IsListIter (n + 1) l2 k) (h3 : s.heap.IsListIter (n + 2) l3 k) (hl1 : s.heap.IsList l1 xs) (hl2 : s.heap.IsList l2 ys) (hl3 : s.heap.IsList l3 zs) (hend : xs[k]? = none ∨ ys[k]? = none ∨ zs[k]? = none)
    (hQ : ∀ h', (∀ d o, d ≠ n → d ≠ n + 1 → d ≠ n + 2 → d ≠ n + 4 → d ≠ n + 5 → s.heap.get? d = some o → h'.get? d = some o) → Q none { s with heap := h' }) : wpAny (model prog w) A (pyNext (.ref (n + 5))) Q E s := by
  have hT : s.TypeIs (.ref (n + 5)) "zip" := ⟨_, hz, rfl⟩
  unfold pyNext
  refine wpAny_bind (wpAny_attempt (wpAny_callSpecial?_slot (name := Str.ofString "__next__") hT F.slot_zip_next
    (wpAny_call_entry F.slot_zip_next hT F.entry_zip_next (zip3_end hh n1 n2 n3 hz hTI hTO h1 h2 h3 hl1 hl2 hl3 hend fun h' e hk he => ?_) (F.args_zip_next_1 _))))
  obtain ⟨o, ho, hc⟩ := he
  refine wpAny_bind (wpAny_isInstance (T := "StopIteration") (b := true) ⟨o, ho, hc⟩ isSubtype_stop ?_)
  exact wpAny_pure (hQ _ hk)
end

/-! ### the call zip(a, b, c) -/
theorem typeCall_zip3 (a b c : Value) : checkTypeCall "zip" ⟨[a, b, c], []⟩ = pure () := by kernel_rfl
theorem newCall_zip3 (a b c : Value) : checkBuiltinCall "zip.__new__" ⟨[.type "zip", a, b, c], []⟩ = pure () := by kernel_rfl
theorem initArgs4 (o a b c : Value) : argsOk "object.__init__" ⟨[o, a, b, c], []⟩ := by
  unfold argsOk; rw [signature?_of (id := "object.__init__") (n := ['_', '_', 't', 'i', 'n', 'i', '_', '_']) (o := ['t', 'c', 'e', 'j', 'b', 'o']) (by kernel_rfl) PySem.F.owner_object]; kernel_rfl
abbrev z3H1 (h : Heap) (l1 : Addr) : Heap := h.push { cls := .type "list_iterator", data := .fields #[.ref l1, .int 0 0] }
abbrev z3H2 (h : Heap) (l1 l2 : Addr) : Heap := (z3H1 h l1).push { cls := .type "list_iterator", data := .fields #[.ref l2, .int 0 0] }
abbrev z3H3 (h : Heap) (l1 l2 l3 : Addr) : Heap := (z3H2 h l1 l2).push { cls := .type "list_iterator", data := .fields #[.ref l3, .int 0 0] }
abbrev z3H4 (h : Heap) (l1 l2 l3 : Addr) : Heap := (z3H3 h l1 l2 l3).push { cls := .type "tuple", data := .seq #[.ref h.objs.size, .ref (z3H1 h l1).objs.size, .ref (z3H2 h l1 l2).objs.size] }
abbrev z3H5 (h : Heap) (l1 l2 l3 : Addr) : Heap := (z3H4 h l1 l2 l3).push { cls := .type "tuple", data := .seq #[.none, .none, .none] }
abbrev z3H6 (h : Heap) (l1 l2 l3 : Addr) : Heap := (z3H5 h l1 l2 l3).push { cls := .type "zip", data := .fields #[.none, .bool false, .bool false, .ref (z3H3 h l1 l2 l3).objs.size, .ref (z3H4 h l1 l2 l3).objs.size] }
set_option maxHeartbeats 4000000 in
theorem meets_zip3 (l1 l2 l3 : Addr) (xs ys zs : Array Value) :
    Meets (Builtin.«zip.__new__» ⟨[.type "zip", .ref l1, .ref l2, .ref l3], []⟩) (fun _ R s => s.heap.IsList l1 xs ∧ s.heap.IsList l2 ys ∧ s.heap.IsList l3 zs ∧
      R (.ok (.ret (.ref (z3H5 s.heap l1 l2 l3).objs.size))) { s with heap := z3H6 s.heap l1 l2 l3 }) :=
  .of_wp fun prog w A R s h => by
    obtain ⟨hp, g, d, tk, os⟩ := s; obtain ⟨hl1, hl2, hl3, h⟩ := h
    have hsub := sub_zip
    have hL1 : Heap.IsList (Shared.heap ⟨hp, g, d, tk, os⟩) l1 xs := hl1
    have hL2 : Heap.IsList (Shared.heap ⟨hp.push { cls := .type "list_iterator", data := .fields #[.ref l1, .int 0 0] }, g, d, tk, os⟩) l2 ys := Heap.IsList.push hl2 _
    have hL3 : Heap.IsList (Shared.heap ⟨(hp.push { cls := .type "list_iterator", data := .fields #[.ref l1, .int 0 0] }).push { cls := .type "list_iterator", data := .fields #[.ref l2, .int 0 0] }, g, d, tk, os⟩) l3 zs := Heap.IsList.push (Heap.IsList.push hl3 _) _
    wp_walk using wpAny_pyIter_list hL1, wpAny_pyIter_list hL2, wpAny_pyIter_list hL3
    exact ⟨_, rfl, h⟩
section
variable {prog : Program} {w : World} {A : Around} {E : Value → Shared → Prop} {s : Shared}
theorem call_zip3 {l1 l2 l3 : Addr} {xs ys zs : Array Value} {Q : Value → Shared → Prop} (hl1 : s.heap.IsList l1 xs) (hl2 : s.heap.IsList l2 ys) (hl3 : s.heap.IsList l3 zs)
    (h : ∀ h', IsZip h' (s.heap.objs.size + 5) (s.heap.objs.size + 3) (s.heap.objs.size + 4) .none → IsTrip h' (s.heap.objs.size + 3) (.ref s.heap.objs.size) (.ref (s.heap.objs.size + 1)) (.ref (s.heap.objs.size + 2)) →
      IsTrip h' (s.heap.objs.size + 4) .none .none .none → h'.IsListIter s.heap.objs.size l1 0 → h'.IsListIter (s.heap.objs.size + 1) l2 0 → h'.IsListIter (s.heap.objs.size + 2) l3 0 →
      (∀ c o, s.heap.get? c = some o → h'.get? c = some o) → Q (.ref (s.heap.objs.size + 5)) { s with heap := h' }) :
    wpAny (model prog w) A (call (.type "zip") [.ref l1, .ref l2, .ref l3]) Q E s := by
  refine callType_new F.called_zip (by decide) (typeCall_zip3 _ _ _) (newCall_zip3 _ _ _) (fun obj => initArgs4 obj _ _ _) F.entry_zip_new
    (meets_zip3 l1 l2 l3 xs ys zs) ⟨hl1, hl2, hl3, ?_⟩
  have z1 : (z3H1 s.heap l1).objs.size = s.heap.objs.size + 1 := Heap.size_push ..
  have z2 : (z3H2 s.heap l1 l2).objs.size = s.heap.objs.size + 2 := by rw [Heap.size_push, z1]
  have z3 : (z3H3 s.heap l1 l2 l3).objs.size = s.heap.objs.size + 3 := by rw [Heap.size_push, z2]
  have z4 : (z3H4 s.heap l1 l2 l3).objs.size = s.heap.objs.size + 4 := by rw [Heap.size_push, z3]
  have z5 : (z3H5 s.heap l1 l2 l3).objs.size = s.heap.objs.size + 5 := by rw [Heap.size_push, z4]
  have g6 : (z3H6 s.heap l1 l2 l3).get? (z3H5 s.heap l1 l2 l3).objs.size = some _ := Heap.get?_push_size _ rfl
  have g5 : (z3H6 s.heap l1 l2 l3).get? (z3H4 s.heap l1 l2 l3).objs.size = some _ := Heap.get?_push_of_some _ (Heap.get?_push_size _ rfl)
  have g4 : (z3H6 s.heap l1 l2 l3).get? (z3H3 s.heap l1 l2 l3).objs.size = some _ := Heap.get?_push_of_some _ (Heap.get?_push_of_some _ (Heap.get?_push_size _ rfl))
  have g3 : (z3H6 s.heap l1 l2 l3).get? (z3H2 s.heap l1 l2).objs.size = some _ := Heap.get?_push_of_some _ (Heap.get?_push_of_some _ (Heap.get?_push_of_some _ (Heap.get?_push_size _ rfl)))
  have g2 : (z3H6 s.heap l1 l2 l3).get? (z3H1 s.heap l1).objs.size = some _ := Heap.get?_push_of_some _ (Heap.get?_push_of_some _ (Heap.get?_push_of_some _ (Heap.get?_push_of_some _ (Heap.get?_push_size _ rfl))))
  have g1 : (z3H6 s.heap l1 l2 l3).get? s.heap.objs.size = some _ := Heap.get?_push_of_some _ (Heap.get?_push_of_some _ (Heap.get?_push_of_some _ (Heap.get?_push_of_some _ (Heap.get?_push_of_some _ (Heap.get?_push_size _ rfl)))))
  show _ ∧ _
  rw [z3, z4, z5] at g6
  rw [z4] at g5
  rw [z1, z2, z3] at g4
  rw [z2] at g3
  rw [z1] at g2
  rw [z5]
  exact ⟨⟨_, g6, rfl⟩, h _ g6 g4 g5 ⟨_, g1, rfl, rfl⟩ ⟨_, g2, rfl, rfl⟩ ⟨_, g3, rfl, rfl⟩ fun c o x =>
    Heap.get?_push_of_some _ (Heap.get?_push_of_some _ (Heap.get?_push_of_some _ (Heap.get?_push_of_some _ (Heap.get?_push_of_some _ (Heap.get?_push_of_some _ x)))))⟩
end
def It3 (K : PySem.W.Frag) (a b c : Addr) : It :=
  ⟨fun i H => ∃ xs ys zs x y q, SqL K H a xs ∧ SqL K H b ys ∧ SqL K H c zs ∧ xs[i]? = some x ∧ ys[i]? = some y ∧ zs[i]? = some q,
   fun i H v H' => ∃ T x y q, v = .ref T ∧ H T = none ∧ H' = upd H T (.tup [x, y, q]) ∧ (∀ xs, SqL K H a xs → xs[i]? = some x) ∧ (∀ ys, SqL K H b ys → ys[i]? = some y) ∧ ∀ zs, SqL K H c zs → zs[i]? = some q,
   fun i H => ∃ xs ys zs, SqL K H a xs ∧ SqL K H b ys ∧ SqL K H c zs ∧ (xs.length ≤ i ∨ ys.length ≤ i ∨ zs.length ≤ i)⟩
def Zip3St (n a b c : Nat) (i : Nat) (h : Heap) : Prop := IsZip h (n + 5) (n + 3) (n + 4) .none ∧ IsTrip h (n + 3) (.ref n) (.ref (n + 1)) (.ref (n + 2)) ∧ (∃ u v w, IsTrip h (n + 4) u v w) ∧ h.IsListIter n a i ∧ h.IsListIter (n + 1) b i ∧ h.IsListIter (n + 2) c i
theorem turn_zip3 {P : Program} {w : World} {K : PySem.W.Frag} {elts : List Expr} {kk : Nat} {tp : Pos} {n a b c : Nat} (n1 : a < n) (n2 : b < n) (n3 : c < n) :
    Turn P w K (.Tuple elts kk tp) (It3 K a b c) [n + 5, n + 3, n + 4, n, n + 1, n + 2] (n + 5) (Zip3St n a b c) where
  mem := by simp
  obj := fun i h st d hd => by
    obtain ⟨h1, h2, ⟨u, v, w', h3⟩, ⟨o1, e1, _, d1⟩, ⟨o2, e2, _, d2⟩, ⟨o3, e3, _, d3⟩⟩ := st
    simp only [List.mem_cons, List.not_mem_nil, or_false] at hd
    rcases hd with rfl | rfl | rfl | rfl | rfl | rfl
    · exact ⟨_, h1, fun v z => by cases (show Data.fields _ = Data.cell v from z)⟩
    · exact ⟨_, h2, fun v z => by cases (show Data.seq _ _ = Data.cell v from z)⟩
    · exact ⟨_, h3, fun v z => by cases (show Data.seq _ _ = Data.cell v from z)⟩
    · exact ⟨_, e1, fun v z => by rw [d1] at z; cases z⟩
    · exact ⟨_, e2, fun v z => by rw [d2] at z; cases z⟩
    · exact ⟨_, e3, fun v z => by rw [d3] at z; cases z⟩
  keep := fun i h h' st k => by
    obtain ⟨h1, h2, ⟨u, v, w', h3⟩, h4, h5, h6⟩ := st
    exact ⟨k _ (by simp) _ h1, k _ (by simp) _ h2, ⟨u, v, w', k _ (by simp) _ h3⟩, h4.at fun o e => k _ (by simp) o e, h5.at fun o e => k _ (by simp) o e, h6.at fun o e => k _ (by simp) o e⟩
  item := by
    intro X hP hw hK hc i pins s σ H E I hf st hg
    subst hP hw hK
    obtain ⟨xs, ys, zs, x, y, q, hx, hy, hq, ex, ey, eq⟩ := hg
    obtain ⟨h1, h2, ⟨u, v, w', h3⟩, h4, h5, h6⟩ := st
    obtain ⟨its, rv, p, hz⟩ := I.list hx
    obtain ⟨jts, rw', p', hz'⟩ := I.list hy
    obtain ⟨kts, rk, p'', hz''⟩ := I.list hq
    obtain ⟨ux, hux, rux⟩ := rv.get ex
    obtain ⟨uy, huy, ruy⟩ := rw'.get ey
    obtain ⟨uq, huq, ruq⟩ := rk.get eq
    refine next_zip3 n1 n2 n3 h1 h2 h3 h4 h5 h6 p.isList p'.isList p''.isList (x := ux) (y := uy) (q := uq) (by simpa using hux) (by simpa using huy) (by simpa using huq) fun h' a1 a2 a3 a4 a5 a6 a7 => ?_
    have ln : n + 5 < s.heap.objs.size := Heap.lt_size h1
    have lt : ∀ d ∈ [n + 5, n + 3, n + 4, n, n + 1, n + 2], d < s.heap.objs.size := fun d hd => by
      simp only [List.mem_cons, List.not_mem_nil, or_false] at hd
      rcases hd with rfl | rfl | rfl | rfl | rfl | rfl <;> omega
    refine ⟨_, rfl, wpAny_letOwnedTupleGo_zip a1 fun h2' b1 b2 => ?_⟩
    have hk : ∀ d o, d ∉ [n + 5, n + 3, n + 4, n, n + 1, n + 2] → s.heap.get? d = some o → h2'.get? d = some o := fun d o hd e => by
      simp only [List.mem_cons, List.not_mem_nil, or_false, not_or] at hd
      exact (b2.2 d hd.1).trans (a7 d o hd.2.2.2.1 hd.2.2.2.2.1 hd.2.2.2.2.2 hd.2.2.1 hd.1 e)
    have I1 := I.turnT (h' := h2') (t' := s.toks) (T := s.heap.objs.size) (xs := [x, y, q]) (its := [ux, uy, uq]) hf hk (Nat.le_refl _) (szl (Nat.le_of_ble_eq_true rfl)) (.cons rux (.cons ruy (.cons ruq .nil))) ⟨_, (b2.2 _ (by show @Ne Nat _ _; omega)).trans a6, rfl, _, rfl⟩
    refine ⟨.ref s.heap.objs.size, _, I1, rfl, ⟨_, x, y, q, rfl, I.hok.fresh (Nat.le_refl _), rfl, fun xs' h => by rw [I.list_inj h hx]; exact ex, fun ys' h => by rw [I.list_inj h hy]; exact ey, fun zs' h => by rw [I.list_inj h hq]; exact eq⟩, ?_, fun d hd => ?_⟩
    · exact ⟨b1, (b2.2 _ (by show @Ne Nat _ _; omega)).trans (a7 _ _ (by show @Ne Nat _ _; omega) (by show @Ne Nat _ _; omega) (by show @Ne Nat _ _; omega) (by show @Ne Nat _ _; omega) (by show @Ne Nat _ _; omega) h2), ⟨_, _, _, (b2.2 _ (by show @Ne Nat _ _; omega)).trans a2⟩, a3.at fun o e => (b2.2 _ (by show @Ne Nat _ _; omega)).trans e, a4.at fun o e => (b2.2 _ (by show @Ne Nat _ _; omega)).trans e, a5.at fun o e => (b2.2 _ (by show @Ne Nat _ _; omega)).trans e⟩
    · rw [upd_ne (Nat.ne_of_lt (lt d hd))]
      exact (hf d hd).1
  done := by
    intro X hP hw hK hc i pins s σ H E I hf st hg
    subst hP hw hK
    obtain ⟨xs, ys, zs, hx, hy, hq, hl⟩ := hg
    obtain ⟨h1, h2, ⟨u, v, w', h3⟩, h4, h5, h6⟩ := st
    obtain ⟨its, rv, p, hz⟩ := I.list hx
    obtain ⟨jts, rw', p', hz'⟩ := I.list hy
    obtain ⟨kts, rk, p'', hz''⟩ := I.list hq
    have l1 := rv.length
    have l2 := rw'.length
    have l3 := rk.length
    refine next_zip3_end (I.ok.hd hc) n1 n2 n3 h1 h2 h3 h4 h5 h6 p.isList p'.isList p''.isList ?_ fun h' hk => ⟨rfl, ?_⟩
    · rcases hl with hl | hl | hl
      · left; simp; omega
      · right; left; simp; omega
      · right; right; simp; omega
    · exact I.turnedL (t' := s.toks) hf fun d o hd e => by
        simp only [List.mem_cons, List.not_mem_nil, or_false, not_or] at hd
        exact hk d o hd.2.2.2.1 hd.2.2.2.2.1 hd.2.2.2.2.2 hd.2.2.1 hd.1 e
  self := fun A i s Q E st h => wpAny_pyIter_zip st.1 h
def iZip3 (K : PySem.W.Frag) (ta : TA) : TI := fun σ H R => ta σ H fun vs H1 => ∃ a b c, vs = [.ref a, .ref b, .ref c] ∧ (∃ xs, SqL K H1 a xs) ∧ (∃ ys, SqL K H1 b ys) ∧ (∃ zs, SqL K H1 c zs) ∧ R (It3 K a b c) H1
section
variable {X : Cx} {elts : List Expr} {kk : Nat} {tp : Pos}
theorem pi_zip3 {a b c : Expr} {ta : TA} {p pos : Pos} (hg : Gl X "zip") (hm : X.mg "zip" = none) (ha : PA X [a, b, c] ta) (hs : starEach [a, b, c] X.env = [(false, eval a X.env), (false, eval b X.env), (false, eval c X.env)] := by rfl) (hs2 : starEach [b, c] X.env = [(false, eval b X.env), (false, eval c X.env)] := by rfl) :
    PI X (.Tuple elts kk tp) (.Call (.Name "zip" p) [a, b, c] [] pos) (iZip3 X.K ta) := by
  intro pins s σ H R I h
  refine Call_ (ld_blt I hg hm bt_zip (PyProof.Rows.callWith_type1 (thn (ha pos pins s σ H _ I h) fun us s1 ⟨vs, H1, I1, r1, q1⟩ => ?_) (by rw [hs, hs2]) (by rw [hs2]; rfl)))
  obtain ⟨x, y, q, e, ⟨xs, hx⟩, ⟨ys, hy⟩, ⟨zs, hq⟩, R1⟩ := q1
  subst e
  cases r1 with
  | cons r rr =>
    cases rr with
    | cons r' rr =>
      cases rr with
      | cons r'' rr =>
        cases rr
        obtain ⟨its, rv, pl, hz⟩ := I1.list hx
        obtain ⟨jts, rw', ql, hz'⟩ := I1.list hy
        obtain ⟨kts, rk, kl, hz''⟩ := I1.list hq
        cases r
        cases r'
        cases r''
        have a1 : x < s1.heap.objs.size := by obtain ⟨_, e, _⟩ := pl.isList; exact Heap.lt_size e
        have a2 : y < s1.heap.objs.size := by obtain ⟨_, e, _⟩ := ql.isList; exact Heap.lt_size e
        have a3 : q < s1.heap.objs.size := by obtain ⟨_, e, _⟩ := kl.isList; exact Heap.lt_size e
        refine call_zip3 pl.isList ql.isList kl.isList fun h' b1 b2 b3 b4 b5 b6 b7 => ?_
        have I2 : Inv X pins σ H1 { s1 with heap := h' } := I1.kept (t' := s1.toks) b7
        refine wpAny_pyIter_zip (s := { s1 with heap := h' }) b1 ⟨_, _, _, _, H1, rfl, I2, turn_zip3 a1 a2 a3, ⟨b1, b2, ⟨_, _, _, b3⟩, b4, b5, b6⟩, fun c hc => ?_, R1⟩
        have hc' : s1.heap.objs.size ≤ c := by
          simp only [List.mem_cons, List.not_mem_nil, or_false] at hc
          rcases hc with rfl | rfl | rfl | rfl | rfl | rfl
          · exact Nat.le_add_right _ _
          · exact Nat.le_add_right _ _
          · exact Nat.le_add_right _ _
          · exact Nat.le_refl _
          · exact Nat.le_add_right _ _
          · exact Nat.le_add_right _ _
        exact I1.fpOk hc' (I1.hok.fresh hc')
theorem pi_zip3K (K : PySem.W.Frag) {a b c : Expr} {ta : TA} {p pos : Pos} (hg : Gl X "zip") (hm : X.mg "zip" = none) (ha : PA X [a, b, c] ta) (hs : starEach [a, b, c] X.env = [(false, eval a X.env), (false, eval b X.env), (false, eval c X.env)] := by rfl) (hs2 : starEach [b, c] X.env = [(false, eval b X.env), (false, eval c X.env)] := by rfl)
    (hK : X.K = K := by rfl) : PI X (.Tuple elts kk tp) (.Call (.Name "zip" p) [a, b, c] [] pos) (iZip3 K ta) := by subst hK; exact pi_zip3 hg hm ha hs hs2
end
section
variable {K : PySem.W.Frag} {g : TG} {ti : TT} {te : TE} {σc : St} {H : Hp} {Q : VK}
theorem cp_zip3 {a b c : Addr} {xs ys ws : List V} (Pv : Nat → List V → Hp → Prop) (h0 : Pv 0 [] H) (hl : ∀ i zs H, Pv i zs H → SqL K H a xs ∧ SqL K H b ys ∧ SqL K H c ws ∧ zs.length ≤ i) (hx : min xs.length (min ys.length ws.length) < sizeLine)
    (hs : ∀ i x y q T zs H, xs[i]? = some x → ys[i]? = some y → ws[i]? = some q → Pv i zs H → H T = none → g (.ref T) σc (upd H T (.tup [x, y, q])) fun σ2 H2 => ti σ2 H2 fun b H3 => if b = true then te σ2 H3 fun y H4 => Pv (i + 1) (zs ++ [y]) H4 else Pv (i + 1) zs H3)
    (hd : ∀ l zs H, Pv (min xs.length (min ys.length ws.length)) zs H → H l = none → Q (.ref l) (upd H l (.lst zs))) : CompI (It3 K a b c) g ti te σc H Q := by
  refine ⟨fun i m zs H => m = min xs.length (min ys.length ws.length) - i ∧ i ≤ min xs.length (min ys.length ws.length) ∧ Pv i zs H, ⟨_, rfl, Nat.zero_le _, h0⟩, ?_⟩
  rintro i m zs H ⟨rfl, hi, p⟩
  obtain ⟨q1, q2, q3, hy⟩ := hl i zs H p
  refine ⟨by omega, ?_⟩
  by_cases hlt : i < min xs.length (min ys.length ws.length)
  · have l1 : i < xs.length := by omega
    have l2 : i < ys.length := by omega
    have l3 : i < ws.length := by omega
    refine .inr ⟨⟨xs, ys, ws, xs[i], ys[i], ws[i], q1, q2, q3, by simp [l1], by simp [l2], by simp [l3]⟩, Pv (i + 1), fun σ' H' p' => ⟨_, by omega, rfl, hlt, p'⟩, fun x H' y => ?_⟩
    obtain ⟨T, x1, y1, z1, rfl, hT, rfl, ex, ey, ez⟩ := y
    exact hs i x1 y1 z1 T zs H (ex xs q1) (ey ys q2) (ez ws q3) p hT
  · have e : i = min xs.length (min ys.length ws.length) := by omega
    exact .inl ⟨⟨xs, ys, ws, q1, q2, q3, by omega⟩, fun l hl => hd l zs H (by rw [← e]; exact p) hl⟩
end
end L2

set_option Elab.async false
set_option linter.all false
set_option maxRecDepth 100000
namespace L2
open PySem PySem.Spec PyProof.Rows
/-- lo, lo - 1, .. (n of them) -/
def Itd (lo : Int) (n : Nat) : It := ⟨fun i _ => i < n, fun i H x H' => H' = H ∧ x = .int (lo - i), fun i _ => n ≤ i⟩
section
variable {X : Cx} {tg : Expr}
def iRng3 (ta : TA) : TI := fun σ H R => ta σ H fun vs H1 => ∃ i j : Int, vs = [.int i, .int j, .int (-1)] ∧ (-(2 ^ 62) ≤ i ∧ i < 2 ^ 62 ∧ -(2 ^ 62) ≤ j ∧ j < 2 ^ 62) ∧ R (Itd i (i - j).toNat) H1
end
section
variable {K : PySem.W.Frag} {g : TG} {tb : TS} {D : Ends} {σ : St} {H : Hp}
end
section
variable {X : Cx} (K : PySem.W.Frag)
/-- all of a list of truths -/
def rAll (K : PySem.W.Frag) : List V → Hp → VK → Prop := fun xs H Q => ∃ (p : Addr) (bs : List Bool), xs = [.ref p] ∧ SqL K H p (bs.map V.bl) ∧ Q (.bl (bs.all id)) H
/-- is, is not of truths -/
def rIsB (neg : Bool) : R2 := fun x y H Q => ∃ a b : Bool, x = .bl a ∧ y = .bl b ∧ Q (.bl (if neg then !decide (a = b) else decide (a = b))) H
theorem i_isB {a b : Bool} {H : Hp} {Q : VK} (q : Q (.bl (decide (a = b))) H) : rIsB false (.bl a) (.bl b) H Q := ⟨a, b, rfl, rfl, q⟩
theorem i_isNotB {a b : Bool} {H : Hp} {Q : VK} (q : Q (.bl (!decide (a = b))) H) : rIsB true (.bl a) (.bl b) H Q := ⟨a, b, rfl, rfl, q⟩
end
end L2

set_option Elab.async false
set_option linter.all false
namespace M
/-! ### wheels: plain mathematics -/
def drag (p a x : Int) : Int := if x < a - p then a - p else if a + p < x then a + p else x
def isTr (ps : List Int) : Prop := 1 ≤ ps.length ∧ ps.length ≤ 12 ∧ ∀ p ∈ ps, 0 ≤ p
def keeps : List Int → Int → List Int → Prop
  | p :: ps, a, x :: xs => (x - a ≤ p ∧ a - x ≤ p) ∧ keeps ps x xs
  | _, _, _ => True
def stand (ps : List Int) (a : Int) (xs : List Int) : Prop := xs.length = ps.length ∧ keeps ps a xs
def dragAll : List Int → List Int → Int → List Int
  | p :: ps, x :: xs, a => drag p a x :: dragAll ps xs (drag p a x)
  | _, _, _ => []
def lastOf : Int → List Int → Int
  | a, [] => a
  | _, x :: xs => lastOf x xs
theorem dropc {α : Type} {xs : List α} {i : Nat} {x : α} (h : xs[i]? = some x) : xs.drop i = x :: xs.drop (i + 1) := by
  obtain ⟨hl, e⟩ := List.getElem?_eq_some_iff.mp h
  rw [List.drop_eq_getElem_cons hl, e]
/-! ### rows; wheels by themselves -/
def runs (ps : List Int) : List Int → List Int → List (List Int)
  | _, [] => []
  | ws, c :: row => dragAll ps ws c :: runs ps (dragAll ps ws c) row
def hung (d : Int) : Int → List Int → List Int
  | _, [] => []
  | x, c :: row => drag d c x :: hung d (drag d c x) row
def alone : Int → List Int → List Int → Int → List Int
  | d, p :: ps, x :: xs, a => drag (d + p) a x :: alone (d + p) ps xs a
  | _, _, _, _ => []
def depths : Int → List Int → List Int
  | _, [] => []
  | d, p :: ps => (d + p) :: depths (d + p) ps
/-! ### rows cut, rows filled -/
def endW (ps : List Int) : List Int → List Int → List Int
  | ws, [] => ws
  | ws, c :: row => endW ps (dragAll ps ws c) row
/-- places on the way, in order -/
def Path (a c : Int) : List Int → Prop
  | [] => True
  | s :: ss => ((a ≤ s ∧ s ≤ c) ∨ (c ≤ s ∧ s ≤ a)) ∧ Path s c ss
/-- a row, filled; the marks tell where the row's own places stand -/
def FillOk (a : Int) (row : List Int) (i : Nat) (fs ms : List Int) : Prop := ∀ ps ws : List Int, (∀ p ∈ ps, 0 ≤ p) → keeps ps a ws →
  endW ps ws fs = endW ps ws (row.take i) ∧ ∀ k : Nat, k < i → ∃ m : Nat, ms[k]? = some (m : Int) ∧ m < fs.length ∧ (runs ps ws fs)[m]? = (runs ps ws row)[k]?
def apps : Nat → List (List Int) → List (List Int)
  | _, [] => []
  | k, x :: xs => (x ++ [(k : Int)]) :: apps (k + 1) xs
theorem take_snoc_get {α : Type} {xs : List α} {j : Nat} {x : α} (h : xs[j]? = some x) : xs.take (j + 1) = xs.take j ++ [x] := by
  rw [List.take_add_one, h]; rfl
end M

set_option Elab.async false
set_option linter.all false
namespace M
/-! ### errands: pieces by their numbers, the handle -1 -/
def pc (xs : List Int) (h : Int) (w : Int) : Int := if w < 0 then h else xs.getD w.toNat 0
abbrev Fn := Int → Int
abbrev Must := Int × Int
def mp (D G : Fn) (m : Must) : Int := G m.1 + m.2 * D m.1
def bey (D G : Fn) (a : Must) (w : Int) : Prop := (mp D G a - G w) * a.2 > D w
instance (D G : Fn) (a : Must) (w : Int) : Decidable (bey D G a w) := inferInstanceAs (Decidable (_ > _))
def sgn (F G : Fn) (w : Int) : Int := if F w < G w then 1 else -1
def fm (F G : Fn) : Nat → List Must
  | 0 => if F (-1) = G (-1) then [] else [(-1, sgn F G (-1))]
  | k + 1 => if F k = G k then fm F G k else [((k : Int), sgn F G k)]
def rst (D G : Fn) : Nat → Must → List Must
  | 0, a => if bey D G a (-1) then [(-1, -a.2)] else []
  | k + 1, a => if bey D G a k then ((k : Int), -a.2) :: rst D G k ((k : Int), -a.2) else rst D G k a
def rstOf (D G : Fn) (a : Must) : List Must := if a.1 < 0 then [] else rst D G a.1.toNat a
def paper (n : Nat) (D F G : Fn) : List Must := match fm F G n with
  | [] => []
  | a :: _ => a :: rstOf D G a
/-- where a wheel alone comes to -/
def goj (d x : Int) (row : List Int) : Int := row.foldl (fun x a => drag d a x) x
/-- of the pieces -1 .. n - 1 -/
def Pcs (n : Nat) (D G : Fn) : Prop := D (-1) = 0 ∧ ∀ i j : Int, -1 ≤ i → i ≤ j → j < n → 0 ≤ D i ∧ D i ≤ D j ∧ G j - G i ≤ D j - D i ∧ G i - G j ≤ D j - D i
/-! ### papers -/
def okMust (n : Nat) (m : Must) : Prop := -1 ≤ m.1 ∧ m.1 < n ∧ (m.2 = 1 ∨ m.2 = -1)
def fstOk (F G : Fn) (m : Must) : Prop := F m.1 ≠ G m.1 ∧ m.2 = sgn F G m.1
def nxt (D G : Fn) (a m : Must) : Prop := m.2 = -a.2 ∧ bey D G a m.1
def chain (n : Nat) (D G : Fn) : Must → List Must → Prop
  | _, [] => True
  | a, m :: ms => okMust n m ∧ nxt D G a m ∧ chain n D G m ms
def isPap (n : Nat) (D F G : Fn) : List Must → Prop
  | [] => True
  | m :: ms => okMust n m ∧ fstOk F G m ∧ chain n D G m ms
/-- a paper, must by must -/
def stepAt (D F G : Fn) (ms : List Must) (k : Nat) : Prop := ∀ m, ms[k]? = some m → (k = 0 → fstOk F G m) ∧ ∀ a, 0 < k → ms[k - 1]? = some a → nxt D G a m
/-! ### ways -/
def ab (i : Int) : Int := if i < 0 then -i else i
def way : Int → List Int → Int
  | _, [] => 0
  | h, x :: r => ab (x - h) + way x r
def wayL : List Int → Int
  | [] => 0
  | h :: r => way h r
theorem wayL_two (x y : Int) (r : List Int) : wayL (x :: y :: r) = ab (y - x) + wayL (y :: r) := rfl
theorem wayL_short : ∀ {xs : List Int}, xs.length ≤ 1 → wayL xs = 0
  | [], _ => rfl
  | [_], _ => rfl
  | _ :: _ :: _, h => by simp at h
/-! ### by loops going down -/
def rr (D G : Fn) : Nat → Must → List Must
  | 0, _ => []
  | k + 1, a => rst D G k a
def ff (F G : Fn) : Nat → List Must
  | 0 => []
  | k + 1 => fm F G k
/-! ### lists -/
/-- the told row -/
def told (ps : List Int) (h : Int) (ws : List Int) (e : Int) (gs : List Int) : List Must := paper ps.length (pc (depths 0 ps) 0) (pc ws h) (pc gs e)
def toldRow (ps : List Int) (h : Int) (ws : List Int) (e : Int) (gs : List Int) : List Int := (told ps h ws e gs).map (mp (pc (depths 0 ps) 0) (pc gs e))
end M

set_option Elab.async false
set_option linter.all false
namespace M
/-! ### turning places -/
def mvFrom : Int → List Int → List Int
  | _, [] => []
  | l, x :: r => if x = l then mvFrom l r else x :: mvFrom x r
def moves : List Int → List Int
  | [] => []
  | x :: r => x :: mvFrom x r
def tn : Int → Int → List Int → List Int
  | _, b, [] => [b]
  | a, b, c :: r => if decide (a < b) = decide (c < b) then b :: tn b c r else tn b c r
def tl (h : Int) : List Int → List Int
  | [] => []
  | c :: m => tn h c m
def turn : List Int → List Int
  | [] => []
  | a :: m => a :: tl a m
/-- unlike each to the next -/
def ch : Int → List Int → Prop
  | _, [] => True
  | a, b :: r => b ≠ a ∧ ch b r
theorem ch_mv : ∀ (r : List Int) (l : Int), ch l (mvFrom l r)
  | [], _ => trivial
  | x :: r, l => by
    simp only [mvFrom]
    split
    · exact ch_mv r l
    · rename_i h
      exact ⟨h, ch_mv r x⟩
/-- up: z lies above the one ahead of it; the rest by turns -/
def alts : Bool → Int → List Int → Prop
  | _, _, [] => True
  | true, z, y :: r => y < z ∧ alts false y r
  | false, z, y :: r => z < y ∧ alts true y r
theorem tn_spec : ∀ (r : List Int) (a b : Int), b ≠ a → ch b r → ∃ z zs, tn a b r = z :: zs ∧ (a < b → b ≤ z) ∧ (b < a → z ≤ b) ∧ alts (decide (a < b)) z zs ∧ (z = b → zs = tl b r)
  | [], a, b, h, _ => ⟨b, [], rfl, fun _ => Int.le_refl _, fun _ => Int.le_refl _, by cases decide (a < b) <;> trivial, fun _ => rfl⟩
  | c :: r, a, b, h, hc => by
    obtain ⟨z, zs, e, h1, h2, h3, h4⟩ := tn_spec r b c hc.1 hc.2
    have hcb := hc.1
    simp only [tn]
    split
    · rename_i g
      refine ⟨b, tn b c r, rfl, fun _ => Int.le_refl _, fun _ => Int.le_refl _, ?_, fun _ => rfl⟩
      rw [e]
      by_cases q : a < b
      · have q2 : c < b := by rw [decide_eq_true q] at g; exact of_decide_eq_true g.symm
        have q3 : ¬ b < c := by omega
        rw [decide_eq_true q]
        rw [decide_eq_false q3] at h3
        exact ⟨by have := h2 q2; omega, h3⟩
      · have q2 : ¬ c < b := by rw [decide_eq_false q] at g; exact of_decide_eq_false g.symm
        have q3 : b < c := by omega
        rw [decide_eq_false q]
        rw [decide_eq_true q3] at h3
        exact ⟨by have := h1 q3; omega, h3⟩
    · rename_i g
      by_cases q : a < b
      · have q2 : ¬ c < b := fun z => g (by rw [decide_eq_true q, decide_eq_true z])
        have q3 : b < c := by omega
        rw [decide_eq_true q3] at h3
        rw [decide_eq_true q]
        exact ⟨z, zs, e, fun _ => by have := h1 q3; omega, fun z => by omega, h3, fun z => by have := h1 q3; omega⟩
      · have q2 : c < b := by
          by_cases z : c < b
          · exact z
          · exact absurd (by rw [decide_eq_false q, decide_eq_false z]) g
        have q3 : ¬ b < c := by omega
        rw [decide_eq_false q3] at h3
        rw [decide_eq_false q]
        exact ⟨z, zs, e, fun z => by omega, fun _ => by have := h2 q2; omega, h3, fun z => by have := h2 q2; omega⟩
theorem tn_way : ∀ (r : List Int) (a b : Int), b ≠ a → ch b r → way a (tn a b r) = ab (b - a) + way b r
  | [], a, b, _, _ => rfl
  | c :: r, a, b, h, hc => by
    have ih := tn_way r b c hc.1 hc.2
    obtain ⟨z, zs, e, h1, h2, _⟩ := tn_spec r b c hc.1 hc.2
    have hcb := hc.1
    simp only [tn]
    split
    · simp only [way]; rw [ih]
    · rename_i g
      rw [e] at ih ⊢
      simp only [way] at ih ⊢
      have key : ab (z - a) = ab (b - a) + ab (z - b) := by
        by_cases q : a < b
        · have q2 : ¬ c < b := fun z => g (by rw [decide_eq_true q, decide_eq_true z])
          have := h1 (by omega)
          unfold ab; rw [if_neg (by omega), if_neg (by omega), if_neg (by omega)]; omega
        · have q2 : c < b := by
            by_cases z : c < b
            · exact z
            · exact absurd (by rw [decide_eq_false q, decide_eq_false z]) g
          have := h2 q2
          unfold ab; rw [if_pos (by omega), if_pos (by omega), if_pos (by omega)]; omega
      omega
theorem mv_way : ∀ (r : List Int) (l : Int), way l (mvFrom l r) = way l r
  | [], _ => rfl
  | x :: r, l => by
    simp only [mvFrom]
    split
    · rename_i h
      subst h
      rw [mv_way r x]
      simp [way, ab]
    · simp only [way]; rw [mv_way r x]
theorem turn_way (row : List Int) : wayL (turn (moves row)) = wayL row := by
  cases row with
  | nil => rfl
  | cons x r =>
    show way x (tl x (mvFrom x r)) = way x r
    have hc := ch_mv r x
    rw [← mv_way r x]
    cases e : mvFrom x r with
    | nil => rfl
    | cons c m =>
      rw [e] at hc
      exact tn_way m x c hc.1 hc.2
theorem tn_last : ∀ (r : List Int) (a b : Int), lastOf a (tn a b r) = lastOf b r
  | [], a, b => rfl
  | c :: r, a, b => by
    simp only [tn]
    split
    · show lastOf b (tn b c r) = _
      exact tn_last r b c
    · have h1 := tn_last r b c
      have : ∀ x y : Int, lastOf x (tn b c r) = lastOf y (tn b c r) := by
        intro x y
        cases e : tn b c r with
        | nil => exfalso; exact tn_ne r b c e
        | cons z zs => rfl
      rw [this a b]; exact h1
where tn_ne : ∀ (r : List Int) (a b : Int), tn a b r ≠ []
  | [], a, b => by simp [tn]
  | c :: r, a, b => by
    simp only [tn]
    split
    · simp
    · exact tn_ne r b c
/-- places doubled -/
def rep (n : Nat) : List Int → List Int
  | [] => []
  | x :: r => List.replicate n x ++ rep n r
theorem tn_length : ∀ (r : List Int) (a b : Int), (tn a b r).length ≤ r.length + 1
  | [], a, b => by simp [tn]
  | c :: r, a, b => by
    have := tn_length r b c
    simp only [tn]; split <;> simp <;> omega
theorem mv_length : ∀ (r : List Int) (l : Int), (mvFrom l r).length ≤ r.length
  | [], _ => by simp [mvFrom]
  | x :: r, l => by
    simp only [mvFrom]
    split
    · have := mv_length r l; simp; omega
    · have := mv_length r x; simp; omega
theorem turn_length (row : List Int) : (turn (moves row)).length ≤ row.length := by
  cases row with
  | nil => simp [turn, moves]
  | cons x r =>
    have h := mv_length r x
    simp only [turn, moves, List.length_cons]
    cases e : mvFrom x r with
    | nil => simp [tl]
    | cons c m =>
      have := tn_length m x c
      rw [e] at h
      simp only [tl]
      simp at h
      omega
/-! ### going by the turning places -/
/-- h: the last turning reached; p: where the row is; rest: the turnings ahead; m: the moves ahead -/
def GoSt (h p : Int) (rest m : List Int) : Prop := (p = h ∧ rest = tl h m) ∨ (p ≠ h ∧ rest = tn h p m ∧ ∀ t rs, rest = t :: rs → t ≠ p)
theorem alts_step {u : Bool} {z y : Int} {r : List Int} (h : alts u z (y :: r)) : (u = true → y < z) ∧ (u = false → z < y) ∧ alts (!u) y r := by
  cases u with
  | true => exact ⟨fun _ => h.1, (fun z => by cases z), h.2⟩
  | false => exact ⟨(fun z => by cases z), fun _ => h.1, h.2⟩

def altL : List Int → Prop
  | a :: b :: r => b ≠ a ∧ alts (decide (a < b)) b r
  | _ => True
theorem altL_tail {a : Int} {l : List Int} (h : altL (a :: l)) : altL l := by
  match l, h with
  | [], _ => trivial
  | [b], _ => trivial
  | b :: c :: r, h =>
    obtain ⟨h1, h2⟩ := h
    have q := alts_step h2
    by_cases e : a < b
    · rw [decide_eq_true e] at q
      have := q.1 rfl
      refine ⟨by omega, ?_⟩
      rw [decide_eq_false (show ¬ b < c by omega)]
      exact q.2.2
    · rw [decide_eq_false e] at q
      have := q.2.1 rfl
      refine ⟨by omega, ?_⟩
      rw [decide_eq_true (show b < c by omega)]
      exact q.2.2
theorem turn_alt (row : List Int) : altL (turn (moves row)) := by
  cases row with
  | nil => trivial
  | cons x r =>
    show altL (x :: tl x (mvFrom x r))
    have hc := ch_mv r x
    cases e : mvFrom x r with
    | nil => trivial
    | cons c m =>
      rw [e] at hc
      obtain ⟨z, zs, e1, h1, h2, h3, _⟩ := tn_spec m x c hc.1 hc.2
      have hcx := hc.1
      show altL (x :: tn x c m)
      rw [e1]
      by_cases q : x < c
      · have := h1 q
        refine ⟨by omega, ?_⟩
        rw [decide_eq_true (show x < z by omega)]
        rwa [decide_eq_true q] at h3
      · have := h2 (by omega)
        refine ⟨by omega, ?_⟩
        rw [decide_eq_false (show ¬ x < z by omega)]
        rwa [decide_eq_false q] at h3
end M

set_option Elab.async false
set_option linter.all false
namespace M
/-! ### standing places: a row and its standing places do the same to whatever is dragged -/
def btw (a c p : Int) : Prop := (a ≤ p ∧ p ≤ c) ∨ (c ≤ p ∧ p ≤ a)
def fo {σ : Type} (f : Int → σ → σ) (x : σ) (L : List Int) : σ := L.foldl (fun y p => f p y) x
/-- what lies between two places that are both gone to leaves nothing -/
structure Sys {σ : Type} (f : Int → σ → σ) : Prop where
  idem : ∀ p x, f p (f p x) = f p x
  wipe : ∀ (a c : Int) (L0 L1 : List Int) (x : σ), (∀ p ∈ L0, btw a c p) → (∀ p ∈ L1, btw a c p) → fo f x (L0 ++ a :: (L1 ++ [c])) = f c (f a x)
def StdOf (row S : List Int) : Prop := ∀ (σ : Type) (f : Int → σ → σ), Sys f → ∀ x, fo f x row = fo f x S
/-- t is the last time of c -/
def LastT (row : List Int) (c : Int) (t : Nat) : Prop := row[t]? = some c ∧ ∀ k, t < k → row[k]? ≠ some c
/-- how far the standing places have been told -/
structure Told (row S : List Int) (c : Int) (t : Nat) (b : Bool) : Prop where
  lt : LastT row c t
  en : ∃ ini, S = ini ++ [c]
  sub : ∀ p ∈ S, p ∈ row
  len : S.length ≤ t + 1
  side : ∀ p ∈ row.drop (t + 1), if b then p < c else c < p
  fold : ∀ (σ : Type) (f : Int → σ → σ), Sys f → ∀ x, fo f x (row.take (t + 1)) = fo f x S
/-- a slow switch -/
def swf (lo hi : Int) (c : Int) (b : Bool) : Bool := if hi ≤ c then true else if c ≤ lo then false else b
end M

set_option Elab.async false
set_option linter.all false
namespace M
/-! ### the standing places are one list; another row with the same ones -/
/-- how standing places are told, one by one -/
inductive Gen (row : List Int) : List Int → Int → Nat → Bool → Prop
  | up {m M : Int} {tm tM : Nat} : LastT row m tm → LastT row M tM → (∀ p ∈ row, m ≤ p ∧ p ≤ M) → m ≠ M → tm < tM → Gen row [m, M] M tM true
  | down {m M : Int} {tm tM : Nat} : LastT row m tm → LastT row M tM → (∀ p ∈ row, m ≤ p ∧ p ≤ M) → m ≠ M → ¬ tm < tM → Gen row [M, m] m tm false
  | next {S : List Int} {c d : Int} {t u : Nat} {b : Bool} : Gen row S c t b → d ∈ row.drop (t + 1) → LastT row d u → (∀ p ∈ row.drop (t + 1), if b then d ≤ p else p ≤ d) → Gen row (S ++ [d]) d u (!b)
/-- each next one strictly within the two ahead of it -/
def Nest : List Int → Prop
  | a :: c :: r => a ≠ c ∧ (match r with | [] => True | d :: _ => (a < c → a < d ∧ d < c) ∧ (c < a → c < d ∧ d < a)) ∧ Nest (c :: r)
  | _ => True
def sbtw (a c p : Int) : Prop := (a < p ∧ p < c) ∨ (c < p ∧ p < a)
/-- a row that is led by standing places -/
structure Other (O S : List Int) : Prop where
  rng : ∀ a c, S[0]? = some a → S[1]? = some c → ∀ p ∈ O, btw a c p
  mark : ∀ j c, S[j]? = some c → ∃ P R, O = P ++ c :: R ∧ (∀ d, S[j + 1]? = some d → d ∈ R ∧ ∀ p ∈ R, btw c d p) ∧ (S[j + 1]? = none → R = [])
/-! ### wheels -/
def cl (l u y : Int) : Int := if y < l then l else if u < y then u else y
/-! ### growing a row that is led by standing places -/
structure Grow (O S : List Int) (n : Nat) : Prop where
  rng : ∀ a c, S[0]? = some a → S[1]? = some c → ∀ p ∈ O, btw a c p
  mark : ∀ j c, j < n → S[j]? = some c → ∃ P R, O = P ++ c :: R ∧ (∀ d, S[j + 1]? = some d → (j + 1 < n → d ∈ R) ∧ ∀ p ∈ R, btw c d p) ∧ (j + 1 = n → R = [])
end M

set_option Elab.async false
set_option linter.all false
namespace M
/-! ### standing places as a function; two lists of standing places that all switches take alike are one -/
/-- all switches take both alike -/
def Agree (r1 r2 : List Int) : Prop := ∀ lo hi, lo < hi → ∀ x, fo (swf lo hi) x r1 = fo (swf lo hi) x r2
/-! ### standing places -/
def Stands (row S : List Int) : Prop := (S = turn (moves row) ∧ S.length < 2) ∨ ∃ c t b, Gen row S c t b ∧ row.length ≤ t + 1
end M

set_option Elab.async false
set_option linter.all false
set_option maxHeartbeats 2000000
namespace M
/-! ### how far a wheel goes along a row; swings taken out -/
def gw (d a : Int) (row : List Int) : Int := way a (hung d a row)
theorem gw_cons (d a p : Int) (r : List Int) : gw d a (p :: r) = ab (drag d p a - a) + gw d (drag d p a) r := rfl
theorem drag_in {d p a : Int} (hd : 0 ≤ d) : p - d ≤ drag d p a ∧ drag d p a ≤ p + d := by unfold drag; omega
/-- a place on the way between two others counts for nothing -/
theorem gw_btw {d a x y z : Int} {r : List Int} (hd : 0 ≤ d) (h1 : x - d ≤ a) (h2 : a ≤ x + d) (h : (x ≤ y ∧ y ≤ z) ∨ (z ≤ y ∧ y ≤ x)) : gw d a (y :: z :: r) = gw d a (z :: r) := by
  rw [gw_cons, gw_cons, gw_cons]
  have e : drag d z (drag d y a) = drag d z a := by unfold drag; omega
  rw [e]
  have : ab (drag d y a - a) + ab (drag d z a - drag d y a) = ab (drag d z a - a) := by unfold ab drag; omega
  omega
theorem gw_swing {d a p1 p2 p3 p4 : Int} {r : List Int} (hd : 0 ≤ d) (h1 : p1 - d ≤ a) (h2 : a ≤ p1 + d) (h : (p1 ≤ p3 ∧ p3 ≤ p2 ∧ p2 ≤ p4) ∨ (p4 ≤ p2 ∧ p2 ≤ p3 ∧ p3 ≤ p1)) :
    gw d a (p2 :: p3 :: p4 :: r) = gw d a (p4 :: r) + 2 * max 0 (max p2 p3 - min p2 p3 - 2 * d) := by
  rw [gw_cons, gw_cons, gw_cons, gw_cons]
  have e : drag d p4 (drag d p3 (drag d p2 a)) = drag d p4 a := by unfold drag; omega
  rw [e]
  have : ab (drag d p2 a - a) + ab (drag d p3 (drag d p2 a) - drag d p2 a) + ab (drag d p4 a - drag d p3 (drag d p2 a)) = ab (drag d p4 a - a) + 2 * max 0 (max p2 p3 - min p2 p3 - 2 * d) := by
    unfold ab drag; omega
  omega
theorem gw_out {d p1 p2 p3 p4 : Int} {r : List Int} (hd : 0 ≤ d) (h : (p1 ≤ p3 ∧ p3 ≤ p2 ∧ p2 ≤ p4) ∨ (p4 ≤ p2 ∧ p2 ≤ p3 ∧ p3 ≤ p1)) :
    ∀ (A : List Int) (a : Int), gw d a (A ++ p1 :: p2 :: p3 :: p4 :: r) = gw d a (A ++ p1 :: p4 :: r) + 2 * max 0 (max p2 p3 - min p2 p3 - 2 * d)
  | [], a => by
    have q := drag_in (p := p1) (a := a) hd
    rw [List.nil_append, List.nil_append, gw_cons, gw_cons d a p1 (p4 :: r), gw_swing hd q.1 q.2 h]
    omega
  | x :: A, a => by
    rw [List.cons_append, List.cons_append, gw_cons, gw_cons, gw_out hd h A]
    omega
theorem gw_mv {d : Int} (hd : 0 ≤ d) : ∀ (r : List Int) (a l : Int), l - d ≤ a → a ≤ l + d → gw d a (mvFrom l r) = gw d a r
  | [], _, _, _, _ => rfl
  | x :: r, a, l, h1, h2 => by
    simp only [mvFrom]
    split
    · rename_i e
      subst e
      rw [gw_mv hd r a x h1 h2, gw_cons]
      have e : drag d x a = a := by unfold drag; omega
      rw [e]
      have : ab (a - a) = 0 := by unfold ab; omega
      omega
    · have q := drag_in (p := x) (a := a) hd
      rw [gw_cons, gw_cons, gw_mv hd r _ x q.1 q.2]
theorem gw_tn {d : Int} (hd : 0 ≤ d) : ∀ (r : List Int) (a x y : Int), y ≠ x → ch y r → x - d ≤ a → a ≤ x + d → gw d a (tn x y r) = gw d a (y :: r)
  | [], _, _, _, _, _, _, _ => rfl
  | c :: r, a, x, y, hne, hc, h1, h2 => by
    have q := drag_in (p := y) (a := a) hd
    have ih := gw_tn hd r (drag d y a) y c hc.1 hc.2 q.1 q.2
    simp only [tn]
    split
    · rw [gw_cons, ih, gw_cons d a y]
    · rename_i hn
      obtain ⟨z, zs, e, a1, a2, _⟩ := tn_spec r y c hc.1 hc.2
      rw [gw_cons d a y, ← ih, ← gw_cons, e]
      have hz := hc.1
      refine (gw_btw hd h1 h2 ?_).symm
      by_cases g1 : x < y <;> by_cases g2 : c < y <;> simp [g1, g2] at hn <;> omega
theorem gw_turn {d : Int} (hd : 0 ≤ d) (row : List Int) (a : Int) : gw d a (turn (moves row)) = gw d a row := by
  cases row with
  | nil => rfl
  | cons x r =>
    have q := drag_in (p := x) (a := a) hd
    show gw d a (x :: tl x (mvFrom x r)) = _
    rw [gw_cons, gw_cons, ← gw_mv hd r _ x q.1 q.2]
    have hc := ch_mv r x
    cases e : mvFrom x r with
    | nil => rfl
    | cons c m =>
      rw [e] at hc
      rw [show tl x (c :: m) = tn x c m from rfl, gw_tn hd m _ x c hc.1 hc.2 q.1 q.2]
/-! ### by turns -/
theorem altL_cons {a b : Int} {r : List Int} (hne : b ≠ a) (h : altL (b :: r)) (ht : ∀ c r', r = c :: r' → (a < b ↔ c < b)) : altL (a :: b :: r) := by
  refine ⟨hne, ?_⟩
  cases r with
  | nil => cases decide (a < b) <;> trivial
  | cons c r =>
    have hq := ht c r rfl
    obtain ⟨h1, h2⟩ := h
    by_cases g : a < b
    · rw [decide_eq_true g]
      have := hq.mp g
      rw [decide_eq_false (show ¬ b < c by omega)] at h2
      exact ⟨this, h2⟩
    · rw [decide_eq_false g]
      have : ¬ c < b := fun z => g (hq.mpr z)
      rw [decide_eq_true (show b < c by omega)] at h2
      exact ⟨by omega, h2⟩
theorem altL_three {a b c : Int} {r : List Int} (h : altL (a :: b :: c :: r)) : b ≠ a ∧ c ≠ b ∧ (a < b ↔ c < b) := by
  have q := alts_step h.2
  have hne := h.1
  by_cases e : a < b
  · rw [decide_eq_true e] at q
    have := q.1 rfl
    omega
  · rw [decide_eq_false e] at q
    have := q.2.1 rfl
    omega
theorem alt_app : ∀ (A : List Int) {B : List Int}, altL (A ++ B) → altL B
  | [], _, h => h
  | _ :: A, _, h => alt_app A (altL_tail h)
/-- a swing taken out leaves the rest by turns -/
theorem alt_out {p1 p2 p3 p4 : Int} {r : List Int} (h : (p1 ≤ p3 ∧ p3 < p2 ∧ p2 ≤ p4) ∨ (p4 ≤ p2 ∧ p2 < p3 ∧ p3 ≤ p1)) :
    ∀ (A : List Int), altL (A ++ p1 :: p2 :: p3 :: p4 :: r) → altL (A ++ p1 :: p4 :: r)
  | [], ha => by
    rw [List.nil_append] at ha ⊢
    have a2 := altL_tail ha
    have a3 := altL_tail a2
    have a4 := altL_tail a3
    have t1 := altL_three ha
    have t2 := altL_three a2
    refine altL_cons (by omega) a4 fun c r' e => ?_
    subst e
    have t3 := altL_three a3
    omega
  | [x], ha => by
    have ih := alt_out h [] (altL_tail ha)
    rw [List.nil_append] at ih
    have t := altL_three (show altL (x :: p1 :: p2 :: p3 :: p4 :: r) from ha)
    refine altL_cons t.1 ih fun c r' e => ?_
    cases e
    omega
  | x :: y :: A, ha => by
    have ih := alt_out h (y :: A) (altL_tail ha)
    refine altL_cons (r := A ++ p1 :: p4 :: r) ?_ ih fun c r' e => ?_
    · exact ha.1
    · cases A with
      | nil => cases e; exact (altL_three (show altL (x :: y :: p1 :: p2 :: p3 :: p4 :: r) from ha)).2.2
      | cons z A => cases e; exact (altL_three (show altL (x :: y :: c :: (A ++ p1 :: p2 :: p3 :: p4 :: r)) from ha)).2.2
/-- the topmost four of a pile that turns by turns -/
theorem four_up {p1 p2 p3 p4 : Int} {A r : List Int} (ha : altL (A ++ p1 :: p2 :: p3 :: p4 :: r)) (h1 : ab (p3 - p2) ≤ ab (p2 - p1)) (h2 : ab (p3 - p2) ≤ ab (p4 - p3)) :
    (p1 ≤ p3 ∧ p3 < p2 ∧ p2 ≤ p4) ∨ (p4 ≤ p2 ∧ p2 < p3 ∧ p3 ≤ p1) := by
  have q := alt_app A ha
  have t1 := altL_three q
  have t2 := altL_three (altL_tail q)
  unfold ab at h1 h2
  omega
/-- what swings come to at a depth -/
def sws (d : Int) (ps : List (Int × Int)) : Int := (ps.map fun p => max 0 (p.2 - p.1 - 2 * d)).sum
theorem sws_snoc (d : Int) (ps : List (Int × Int)) (p : Int × Int) : sws d (ps ++ [p]) = sws d ps + max 0 (p.2 - p.1 - 2 * d) := by simp [sws]
/-- swings and what is left: as far as a wheel of any depth goes -/
def SwOk (row : List Int) (ps : List (Int × Int)) (lf : List Int) : Prop := ∀ d a, 0 ≤ d → gw d a row = gw d a lf + 2 * sws d ps
end M

set_option Elab.async false
set_option linter.all false
namespace M
/-! ### all moved by one number, or turned over -/
/-! papers -/
section
variable {n : Nat} {D F G F' G' : Fn} {b : Int}
def flip (m : Must) : Must := (m.1, 0 - m.2)
end
section
variable {ps ws gs : List Int} {h e : Int}
end
/-! swings, by the pile -/
def isSw4 : List Int → Bool
  | [a, b, c, d] => decide (ab (c - b) ≤ ab (b - a)) && decide (ab (c - b) ≤ ab (d - c))
  | _ => false
def hasS (pile : List Int) : Bool := isSw4 (pile.drop (pile.length - 4))
def delS (pile : List Int) : List Int := pile.take (pile.length - 3) ++ pile.drop (pile.length - 1)
def prS (pile : List Int) : Int × Int := (min (pile.getD (pile.length - 3) 0) (pile.getD (pile.length - 2) 0), max (pile.getD (pile.length - 3) 0) (pile.getD (pile.length - 2) 0))
def swW : Nat → List Int → List (Int × Int) → List Int × List (Int × Int)
  | 0, pile, prs => (pile, prs)
  | n + 1, pile, prs => if hasS pile = true then swW n (delS pile) (prs ++ [prS pile]) else (pile, prs)
def swF : List Int → List Int → List (Int × Int) → List Int × List (Int × Int)
  | [], pile, prs => (pile, prs)
  | x :: r, pile, prs => swF r (swW (pile.length + 1) (pile ++ [x]) prs).1 (swW (pile.length + 1) (pile ++ [x]) prs).2
end M

set_option Elab.async false
set_option linter.all false
set_option maxRecDepth 100000
/-! (a, b, ..) = a list of that length -/
namespace L2
open PySem PySem.Spec PyProof.Rows
section
variable {prog : Program} {w : World} {A : Around} {E : Value → Shared → Prop} {s : Shared}
theorem isList_ext {h h' : Heap} {l b : Addr} {items : Array Value} (x : h.IsList l items) (e : Heap.ExtBut b h h') (n : l ≠ b) : h'.IsList l items := by
  obtain ⟨o, ho, r⟩ := x
  exact ⟨o, e l o n ho, r⟩
theorem draw_list {it t : Addr} {items : Array Value} (hne : t ≠ it) : ∀ (n i : Nat) (s : Shared) (Q : List Value → Shared → Prop), s.heap.IsListIter it t i → s.heap.IsList t items → i + n ≤ items.size →
    (∀ h', h'.IsListIter it t (i + n) → Heap.SameBut it s.heap h' → Q ((items.toList.drop i).take n) { s with heap := h' }) → wpAny (model prog w) A (draw (.ref it) n) Q E s
  | 0, i, s, Q, hit, _, _, hQ => by
    show wpAny _ _ (pure []) Q E s
    exact wpAny_pure (by simpa using hQ s.heap hit (Heap.SameBut.refl ..))
  | n + 1, i, s, Q, hit, ht, hle, hQ => by
    have hlt : i < items.size := by omega
    show wpAny _ _ (pyNext (.ref it) >>= _) Q E s
    refine wpAny_bind (wpAny_pyNext_list_item hit ht (x := items[i]) (by simp [hlt]) fun h₁ hit₁ hs₁ => ?_)
    refine wpAny_bind (wpAny_holding (draw_list hne n (i + 1) _ _ hit₁ (isList_ext ht hs₁.extBut hne) (by omega) fun h₂ hit₂ hs₂ => wpAny_pure ?_))
    have hd : items.toList.drop i = items[i] :: items.toList.drop (i + 1) := by simp [List.drop_eq_getElem_cons, hlt]
    have := hQ h₂ (by rw [show i + (n + 1) = i + 1 + n by omega]; exact hit₂) (hs₁.trans hs₂)
    rw [hd, List.take_succ_cons] at this
    exact this
theorem unpackItems_list {t : Addr} {items : Array Value} {Q : List Value → Shared → Prop} (hh : A.handled = none) (ht : s.heap.IsList t items)
    (hQ : ∀ h', Heap.ExtBut s.heap.objs.size s.heap h' → Q items.toList { s with heap := h' }) : wpAny (model prog w) A (unpackItems (.ref t) items.size none) Q E s := by
  have hlt : t ≠ s.heap.objs.size := by obtain ⟨o, ho, _⟩ := ht; exact Nat.ne_of_lt (Heap.lt_size ho)
  have push : ∀ o, (s.heap.push o).IsList t items := fun o => by
    obtain ⟨ob, ho, r⟩ := ht
    exact ⟨ob, Heap.get?_push_of_some _ ho, r⟩
  unfold unpackItems
  refine wpAny_bind ?_
  · unfold notIterableAtAll
    refine wpAny_bind (wpAny_specialOf ht.typeIs slot_list_iter.lookup ?_)
    refine wpAny_pure ?_
    simp only [Bool.false_eq_true, if_false]
    refine wpAny_bind (wpAny_holding (wpAny_pyIter_list ht ?_))
    refine wpAny_bind (wpAny_holding (draw_list hlt items.size 0 _ _ ⟨_, Heap.get?_push_size _ rfl, rfl, rfl⟩ (push _) (by omega) fun h₁ hit₁ hs₁ => ?_))
    have hall : List.take items.size (List.drop 0 items.toList) = items.toList := by
      rw [List.drop_zero]; exact List.take_of_length_le (by simp)
    rw [hall]
    rw [if_neg (by simp)]
    have ht₁ : h₁.IsList t items := isList_ext (push _) hs₁.extBut hlt
    refine wpAny_bind (wpAny_holding (wpAny_pyNext_list_end hh hit₁ ht₁ (by simp) fun h₂ he₂ => ?_))
    simp only [Option.isSome_none, Bool.false_eq_true, if_false]
    refine wpAny_pure (hQ h₂ fun b o hb e => he₂ b o hb (hs₁.extBut b o hb (Heap.get?_push_of_some _ e)))
theorem assign_Tuple_list {env : Env} {elts : List Expr} {x1} {pos : Pos} {t : Addr} {items : Array Value} {Q : Unit → Shared → Prop} (hh : A.handled = none) (ht : s.heap.IsList t items)
    (hn : (assignEach elts env).length = items.size) (hstar : (assignEach elts env).findIdx? (·.1) = none)
    (h : ∀ h', Heap.ExtBut s.heap.objs.size s.heap h' → wpAny (model prog w) A (assignInOrder ((assignEach elts env).map (·.2)) items.toList) Q E { s with heap := h' }) :
    wpAny (model prog w) A (assign (.Tuple elts x1 pos) env (.ref t)) Q E s := by
  rw [assign_Tuple]
  refine wpAny_bind (wpAny_standAt ?_)
  unfold unpack
  rw [hn, hstar]
  exact wpAny_bind (wpAny_holding (unpackItems_list hh ht h))
end
section
variable {X : Cx} {pos : Pos}
def gLst (K : PySem.W.Frag) (n : Nat) (t : TGs) : TG := fun v σ H Q => ∃ a xs, v = .ref a ∧ SqL K H a xs ∧ xs.length = n ∧ t xs σ H Q
theorem pg_lst {es : List Expr} {k : Nat} {t : TGs} {n : Nat} (hc : X.calm = true) (h : PGs X es t)
    (hn : (assignEach es X.env).length = n := by rfl) (hst : (assignEach es X.env).findIdx? (·.1) = none := by rfl) : PG X (.Tuple es k pos) (gLst X.K n t) := by
  intro pins s σ H v u Q I r hw
  obtain ⟨a, xs, e1, hq, hl, hw⟩ := hw
  subst e1
  cases r
  obtain ⟨its, rv, ht, hz⟩ := I.list hq
  refine assign_Tuple_list (I.ok.hd hc) ht.isList (by simp [hn, ← hl, rv.length]) hst fun h' hx => ?_
  have I1 : Inv X pins σ H { s with heap := h' } := I.kept (t' := s.toks) fun b o e => hx b o (Nat.ne_of_lt (Heap.lt_size e)) e
  exact h pins _ σ H xs _ Q I1 (by simpa using rv) hw
theorem pg_lstK (K : PySem.W.Frag) {es : List Expr} {k : Nat} {t : TGs} (n : Nat) (h : PGs X es t) (hc : X.calm = true := by rfl) (hn : (assignEach es X.env).length = n := by rfl) (hst : (assignEach es X.env).findIdx? (·.1) = none := by rfl) (hK : X.K = K := by rfl) : PG X (.Tuple es k pos) (gLst K n t) := by
  subst hK; exact pg_lst hc h hn hst
end
end L2

set_option Elab.async false
set_option linter.all false
set_option maxRecDepth 100000
/-! xs[::-1], xs.index(i), xs.insert(i, x) -/
namespace L2
open PySem PySem.Spec PyProof.Rows
section
variable {X : Cx} {e k : Expr} {te : TE} {tk : TO} {pos p2 : Pos}
def rRev (K : PySem.W.Frag) : V → Hp → VK → Prop := fun x H Q => ∃ a xs, x = .ref a ∧ SqL K H a xs ∧ ∀ p, H p = none → Q (.ref p) (upd H p (.lst xs.reverse))
def tRev (K : PySem.W.Frag) (te : TE) (tk : TO) : TE := fun σ H Q => te σ H fun x H1 => tk σ H1 fun j H2 => j = some (-1) ∧ rRev K x H2 Q
end
section
variable {X : Cx}
def rIndex : V → List V → Hp → VK → Prop := fun x vs H Q => ∃ l ns k, x = .ref l ∧ vs = [.int k] ∧ H l = some (.lst (iL ns)) ∧ k ∈ ns ∧ Q (.int (ns.idxOf k : Nat)) H
def rInsert : V → List V → Hp → VK → Prop := fun x vs H Q => ∃ l xs y, x = .ref l ∧ vs = [.int 0, y] ∧ H l = some (.lst xs) ∧ xs.length < sizeLine ∧ Q .non (upd H l (.lst (y :: xs)))
end
section
variable {K : PySem.W.Frag} {H : Hp} {Q : VK}
theorem atI_neg {α : Type} {xs : List α} {i : Int} {v : α} (h0 : i < 0) (h1 : 0 ≤ i + xs.length) (h : xs[(i + xs.length).toNat]? = some v) : atI xs i = some v := by
  have e : ixN xs.length i = some (i + xs.length).toNat := by
    unfold ixN
    rw [if_neg (by omega), if_pos (by omega)]
  unfold atI
  rw [e]
  exact h
theorem i_ixNeg {p : Addr} {xs : List V} {i : Int} {v : V} (h : SqL K H p xs) (h0 : i < 0) (h1 : 0 ≤ i + xs.length) (e : xs[(i + xs.length).toNat]? = some v) (q : Q v H) : rIxP K (.ref p) (.int i) H Q := .inl ⟨p, _, _, _, rfl, rfl, h, atI_neg h0 h1 e, q⟩
end
end L2

set_option Elab.async false
set_option linter.all false
set_option maxRecDepth 100000
/-! del xs[a:b]; slices of any sign -/
namespace L2
open PySem PySem.Spec PyProof.Rows
def sel (start stop step : Int) (i : Nat) : Bool :=
  if step > 0 then start ≤ i && i < stop && (i - start) % step == 0
  else stop < i && i ≤ start && (start - i) % (-step) == 0
theorem list_delitem_eq (l i : Value) : Builtin.«list.__delitem__» ⟨[l, i], []⟩ = (do
    let (self, [i]) ← slotArgs "__delitem__" 1 ⟨[l, i], []⟩ | unsupported "internal:list.__delitem__"
    if let some k ← Builtin.List.listSubscript? i then
      match seqIndex? k (← Builtin.List.listItems self).size with
      | some k => Builtin.List.listUpdate self (·.eraseIdxIfInBounds k); return ← ret .none
      | none => rule "list.__delitem__.out-of-range"; raiseError "IndexError" "list assignment index out of range"
    if (← typeOf i) != .type "slice" then Builtin.List.listBadSubscript i
    let (lo, hi, st) ← Builtin.List.listSliceParts i
    let old ← Builtin.List.listItems self
    let (start, stop, step) ← sliceIndices lo hi st old.size
    rule "list.__delitem__.slice"
    Builtin.List.listUpdate self fun xs => (xs.toList.zipIdx.filterMap fun (x, k) => if sel start stop step k then none else some x).toArray
    let gone := old.toList.zipIdx.filterMap fun (x, k) => if sel start stop step k then some x else none
    letGo (if step == 1 then gone.reverse else gone)
    ret .none) := rfl
theorem del_run {α : Type} {a b : Nat} (hab : a ≤ b) : ∀ (xs : List α) (i : Nat), (xs.zipIdx i).filterMap (fun p => if sel (a : Int) (b : Int) 1 p.2 = true then none else some p.1) = xs.take (a - i) ++ xs.drop (b - i)
  | [], i => by simp
  | x :: xs, i => by
    have hs : sel (a : Int) (b : Int) 1 i = decide (a ≤ i ∧ i < b) := by
      unfold sel
      rw [if_pos (by decide)]
      by_cases h1 : a ≤ i <;> by_cases h2 : i < b <;> simp [h1, h2] <;> omega
    rw [List.zipIdx_cons, List.filterMap_cons]
    simp only [hs]
    by_cases h1 : a ≤ i
    · by_cases h2 : i < b
      · rw [if_pos (by simp [h1, h2])]
        simp only
        rw [del_run hab xs (i + 1), show a - (i + 1) = 0 by omega, show a - i = 0 by omega, show b - i = (b - (i + 1)) + 1 by omega]
        simp
      · rw [if_neg (by simp; omega)]
        simp only
        rw [del_run hab xs (i + 1), show a - (i + 1) = 0 by omega, show a - i = 0 by omega, show b - i = 0 by omega, show b - (i + 1) = 0 by omega]
        simp
    · rw [if_neg (by simp; omega)]
      simp only
      rw [del_run hab xs (i + 1), show a - i = (a - (i + 1)) + 1 by omega, show b - i = (b - (i + 1)) + 1 by omega]
      simp
theorem del_none {α : Type} {a b : Nat} (hab : ¬ a ≤ b) : ∀ (xs : List α) (i : Nat), (xs.zipIdx i).filterMap (fun p => if sel (a : Int) (b : Int) 1 p.2 = true then none else some p.1) = xs
  | [], i => by simp
  | x :: xs, i => by
    have hs : sel (a : Int) (b : Int) 1 i = false := by
      unfold sel
      rw [if_pos (by decide)]
      by_cases h1 : a ≤ i
      · have h2 : ¬ i < b := by omega
        simp [h1, h2]
      · simp [h1]
    rw [List.zipIdx_cons, List.filterMap_cons]
    simp only [hs]
    rw [if_neg (by simp)]
    simp only
    rw [del_none hab xs (i + 1)]
/-- what is left of xs behind del xs[lo:hi] -/
def delV (xs : List V) (lo hi : Option Int) : List V := if HT.sIx xs.length 0 lo ≤ HT.sIx xs.length xs.length hi then xs.take (HT.sIx xs.length 0 lo) ++ xs.drop (HT.sIx xs.length xs.length hi) else xs
section
variable {prog : Program} {w : World} {A : Around} {E : Value → Shared → Prop} {s : Shared}
theorem delItem_slice {l sl : Addr} {its : List Value} {n : Nat} {vl vu : Value} {lo hi : Option Int} {Q : Unit → Shared → Prop} (ho : s.heap.get? l = some { cls := .type "list", data := .seq its.toArray n })
    (hs : s.heap.IsSliceOf sl vl vu .none) (pl : IsPart vl lo) (pu : IsPart vu hi) (hz : its.length ≤ sizeLine)
    (h : Q () { s with heap := s.heap.update l (Obj.mapSeq fun xs => (xs.toList.zipIdx.filterMap fun p => if sel (HT.sIx its.length 0 lo : Nat) (HT.sIx its.length its.length hi : Nat) 1 p.2 = true then none else some p.1).toArray) }) :
    wpAny (model prog w) A (delItem (.ref l) (.ref sl)) Q E s := by
  obtain ⟨os, hos, hcs, hds⟩ := id hs
  have hTs : s.TypeIs (.ref sl) "slice" := ⟨os, hos, hcs⟩
  refine wpAny_delItem_slot ⟨_, ho, rfl⟩ (by decide) PySem.F.slot_list_delitem (wpAny_call_entry PySem.F.slot_list_delitem ⟨_, ho, rfl⟩ PySem.F.entry_list_delitem ?_ (PySem.F.args_list_delitem_2 _ _))
  rw [list_delitem_eq]
  show wpAny _ _ (Builtin.List.listSubscript? (.ref sl) >>= _) _ _ s
  refine wpAny_bind ?_
  unfold Builtin.List.listSubscript?
  refine wpAny_bind (wpAny_specialOf hTs slice_no_index ?_)
  simp only [Option.isNone_none, if_true]
  refine wpAny_pure ?_
  show wpAny _ _ (typeOf (.ref sl) >>= _) _ _ s
  refine wpAny_bind (wpAny_typeOf hTs ?_)
  rw [if_neg (by decide)]
  rw [listSliceParts_eq]
  refine wpAny_bind (wpAny_bind (wpAny_field hos hds (x := .none) rfl (wpAny_bind (wpAny_listPart .none ?_))))
  rw [if_neg (by exact Bool.false_ne_true)]
  refine wpAny_bind (wpAny_field hos hds (x := vl) rfl (wpAny_bind (wpAny_listPart pl ?_)))
  refine wpAny_bind (wpAny_field hos hds (x := vu) rfl (wpAny_bind (wpAny_listPart pu (wpAny_pure ?_))))
  refine wpAny_bind (listItems_at ho rfl ?_)
  refine wpAny_bind (wpAny_of_eq (sliceIndices_raw lo hi none its.toArray.size (by simp)) ?_)
  refine wpAny_bind (wpAny_rule ?_)
  obtain ⟨b1, b2, b3⟩ := slice_bounds lo hi its.length
  rw [show its.toArray.size = its.length from List.size_toArray ..]
  rw [b1, b2, b3]
  refine wpAny_bind (listUpdate_at ho rfl ?_ (by rw [List.size_toArray]; exact hz) (by
    rw [List.size_toArray]
    refine Nat.le_trans (List.length_filterMap_le _ _) ?_
    rw [List.length_zipIdx]
    show its.length ≤ _
    omega))
  refine wpAny_bind (wpAny_letGo ?_)
  exact wpAny_pure ⟨_, rfl, h⟩
end
section
variable {X : Cx} {o : Expr} {to : TE} {lo hi : Option Expr} {tl th : TO} {pos p1 p2 : Pos}
def tDelS (to : TE) (tl th : TO) : TS := fun D σ H => to σ H fun x H1 => tl σ H1 fun a H2 => th σ H2 fun b H3 => ∃ l xs, x = .ref l ∧ H3 l = some (.lst xs) ∧ D.nx σ (upd H3 l (.lst (delV xs a b)))
theorem ps_delS (ho : PE X o to) (hl : PO X lo tl) (hu : PO X hi th) : PS X (.Delete [.Subscript o (.Slice lo hi none p2) p1] pos) (tDelS to tl th) := by
  intro pins s σ H D I h
  refine wpAny_Delete (wpAny_deleteEach_cons (wpAny_delete_Subscript (thn (ho pins s σ H _ I h) fun u s1 ⟨x, H1, I1, rx, q1⟩ => ?_)))
  refine wpAny_Slice (thn (hl pins s1 σ H1 _ I1 q1) fun vl s2 ⟨a, H2, I2, pl, q2⟩ => thn (hu pins s2 σ H2 _ I2 q2) fun vu s3 ⟨b, H3, I3, pu, l, xs, ex, e, q3⟩ => ?_)
  subst ex
  obtain rfl : u = Value.ref l := rx
  rw [evalPart_none]
  refine wpAny_pure ?_
  have I4 : Inv X pins σ H3 { s3 with heap := s3.heap.push { cls := .type "slice", data := .fields #[vl, vu, .none] } } := I3.kept (t' := s3.toks) fun b ob q => Heap.get?_push_of_some _ q
  obtain ⟨z, its, n, r, hlen, ee⟩ := I4.lstM e
  refine delItem_slice ee (Heap.IsSliceOf.new ..) pl pu (by omega) (wpAny_deleteEach_nil ⟨σ, _, I4.lset (its' := ?_) e ee ?_ ?_ ?_, q3⟩)
  · exact if HT.sIx xs.length 0 a ≤ HT.sIx xs.length xs.length b then its.take (HT.sIx xs.length 0 a) ++ its.drop (HT.sIx xs.length xs.length b) else its
  · simp only [← hlen]
    congr 1
    split
    · rename_i hab
      have := del_run hab its 0
      simpa using this
    · rename_i hab
      exact del_none hab its 0
  · unfold delV
    split
    · exact (r.take _).append (r.drop _)
    · exact r
  · unfold delV
    split
    · rw [List.length_append, List.length_take, List.length_drop]; omega
    · exact z
end
/-! ### the places that a slice of a sign below 0 means -/
theorem sIx_neg (n d : Nat) {k : Nat} (hk : 0 < k) : HT.sIx n d (some (-(k : Int))) = n - k := by
  unfold HT.sIx
  simp only
  split <;> (try split) <;> omega
theorem sIx_none (n d : Nat) : HT.sIx n d none = d := rfl
section
variable {K : PySem.W.Frag} {H : Hp} {Q : VK} {p : Addr}
theorem cut_end4 {A : List V} {a b c d : V} : cutV (A ++ [a, b, c, d]) (some (-4)) none = [a, b, c, d] := by
  unfold cutV
  rw [show ((-4 : Int)) = -((4 : Nat) : Int) from rfl, sIx_neg _ _ (by decide), sIx_none]
  simp
theorem cut_mid2 {A : List V} {a b c d : V} : cutV (A ++ [a, b, c, d]) (some (-3)) (some (-1)) = [b, c] := by
  unfold cutV
  rw [show ((-3 : Int)) = -((3 : Nat) : Int) from rfl, show ((-1 : Int)) = -((1 : Nat) : Int) from rfl, sIx_neg _ _ (by decide), sIx_neg _ _ (by decide)]
  rw [show (A ++ [a, b, c, d]).length - 3 = A.length + 1 by simp, show (A ++ [a, b, c, d]).length - 1 - (A.length + 1) = 2 by simp]
  rw [show A ++ [a, b, c, d] = (A ++ [a]) ++ [b, c, d] by simp, show A.length + 1 = (A ++ [a]).length by simp, List.drop_left]
  rfl
theorem del_mid2 {A : List V} {a b c d : V} : delV (A ++ [a, b, c, d]) (some (-3)) (some (-1)) = A ++ [a, d] := by
  unfold delV
  rw [show ((-3 : Int)) = -((3 : Nat) : Int) from rfl, show ((-1 : Int)) = -((1 : Nat) : Int) from rfl, sIx_neg _ _ (by decide), sIx_neg _ _ (by decide)]
  rw [if_pos (by omega), show (A ++ [a, b, c, d]).length - 3 = (A ++ [a]).length by simp, show (A ++ [a, b, c, d]).length - 1 = (A ++ [a, b, c]).length by simp]
  rw [show (A ++ [a, b, c, d]).take (A ++ [a]).length = A ++ [a] by rw [show A ++ [a, b, c, d] = (A ++ [a]) ++ [b, c, d] by simp, List.take_left]]
  rw [show (A ++ [a, b, c, d]).drop (A ++ [a, b, c]).length = [d] by rw [show A ++ [a, b, c, d] = (A ++ [a, b, c]) ++ [d] by simp, List.drop_left]]
  simp
theorem i_slEnd4 {A : List V} {a b c d : V} (h : SqL K H p (A ++ [a, b, c, d])) (q : ∀ l, H l = none → Q (.ref l) (upd H l (.lst [a, b, c, d]))) : rSlL K (.ref p) (some (-4)) none H Q :=
  ⟨p, _, rfl, h, fun l hl => by rw [cut_end4]; exact q l hl⟩
theorem i_slMid2 {A : List V} {a b c d : V} (h : SqL K H p (A ++ [a, b, c, d])) (q : ∀ l, H l = none → Q (.ref l) (upd H l (.lst [b, c]))) : rSlL K (.ref p) (some (-3)) (some (-1)) H Q :=
  ⟨p, _, rfl, h, fun l hl => by rw [cut_mid2]; exact q l hl⟩
end
end L2

set_option Elab.async false
set_option linter.all false
set_option maxRecDepth 100000
/-! Tuples: comprehensions over one, tuple(list), what isinstance says of one. -/
namespace L2
open PySem PySem.Spec PyProof.Rows
section
variable {K : PySem.W.Frag} {g : TG} {ti : TT} {te : TE} {σc : St} {H : Hp} {Q : VK}
end
def rTupOf (K : PySem.W.Frag) : List V → Hp → VK → Prop := fun xs H Q => ∃ p ys, xs = [.ref p] ∧ ((SqL K H p ys ∧ ∀ l, H l = none → Q (.ref l) (upd H l (.tup ys))) ∨ (SqT K H p ys ∧ Q (.ref p) H))
section
variable {K : PySem.W.Frag} {H : Hp} {Q : VK}
theorem isi_tl : PySem.W.kitOne K (.type "tuple") (.type "list") = some false := by kernel_rfl
theorem isi_tt : PySem.W.kitOne K (.type "tuple") (.type "tuple") = some true := by kernel_rfl
theorem i_isiTL {a : Addr} {xs : List V} (h : H a = some (.tup xs)) (q : Q (.bl false) H) : rIsi K [.ref a, .ty "list"] H Q := ⟨_, _, _, false, rfl, .tup h, isi_tl, q⟩
theorem i_isiTT {a : Addr} {xs : List V} (h : H a = some (.tup xs)) (q : Q (.bl true) H) : rIsi K [.ref a, .ty "tuple"] H Q := ⟨_, _, _, true, rfl, .tup h, isi_tt, q⟩
end
end L2

set_option Elab.async false
set_option linter.all false
set_option maxRecDepth 100000
/-! sorted(..) by what its runs do, whatever the items are; two pairs -/
namespace L2
open PySem PySem.Spec PyProof.Rows
section
variable {prog : Program} {w : World} {A : Around} {E : Value → Shared → Prop} {s : Shared}
/-- the runs of a sort, the state staying -/
def RunsTo (prog : Program) (w : World) (A : Around) (vs : List Value) (s : Shared) (R : List Value → Prop) : Prop :=
  ∀ {E : Value → Shared → Prop} {P : SortSt → Shared → Prop}, (∀ (st : SortSt) (out : List Value), failedOf st = none → (arrOf st).map (·.2) = out.toArray → out.length = vs.length → R out → P st s) →
    wpAny (model prog w) A (do let kind ← keyKind' vs.toArray; let ((), st) ← (sortRuns').run (SortSt.mk' kind (vs.toArray.zip vs.toArray) #[] 7 none); pure st) P E s
theorem list_sort_raw {a : Addr} {vs : List Value} {n : Nat} {P : Fin → Shared → Prop} {R : List Value → Prop} (ho : s.heap.get? a = some (seqObj "list" vs.toArray n)) (h2 : 2 ≤ vs.length) (hz : vs.length ≤ sizeLine)
    (hr : ∀ h' : Heap, (∀ b o, b ≠ a → s.heap.get? b = some o → h'.get? b = some o) → RunsTo prog w A vs { s with heap := h' } R)
    (h : ∀ out : List Value, out.length = vs.length → R out → P (.done (.ret .none)) { s with heap := sortedHeap s.heap a vs out.toArray }) :
    wpAny (model prog w) A (Builtin.«list.sort» ⟨[.ref a], []⟩) P E s := by
  rw [list_sort_plain]
  have ha : a < s.heap.objs.size := Heap.lt_size ho
  refine wpAny_bind (listItems_at ho rfl ?_)
  refine wpAny_bind (listUpdate_at ho rfl ?_ (by rw [List.size_toArray]; exact hz) (Nat.zero_le _))
  obtain ⟨e1, ho1⟩ : ∃ e1, (s.heap.update a (Obj.mapSeq fun _ => #[])).get? a = some (seqObj "list" #[] e1) := ⟨_, get?_update_seq ho (fun _ => #[])⟩
  refine wpAny_bind (seqEpoch_at ho1 rfl ?_)
  refine wpAny_bind (wpAny_newTuple ?_ (by show vs.length ≤ _; exact hz))
  refine wpAny_bind (wpAny_newList ?_ (Nat.zero_le _))
  refine wpAny_holding ?_
  have ho6 : (((s.heap.update a (Obj.mapSeq fun _ => #[])).push (seqObj "tuple" vs.toArray 0)).push (seqObj "list" #[] 0)).get? a = some (seqObj "list" #[] e1) := by
    rw [Heap.get?_push_ne _ _ _ (by rw [size_push', Heap.size_update]; exact Nat.ne_of_lt (Nat.lt_succ_of_lt ha)), Heap.get?_push_ne _ _ _ (by rw [Heap.size_update]; exact Nat.ne_of_lt ha)]
    exact ho1
  have keep : ∀ b o, b ≠ a → s.heap.get? b = some o → (((s.heap.update a (Obj.mapSeq fun _ => #[])).push (seqObj "tuple" vs.toArray 0)).push (seqObj "list" #[] 0)).get? b = some o := fun b o hb q => by
    have hlt := Heap.lt_size q
    rw [Heap.get?_push_ne _ _ _ (by rw [size_push', Heap.size_update]; exact Nat.ne_of_lt (Nat.lt_succ_of_lt hlt)), Heap.get?_push_ne _ _ _ (by rw [Heap.size_update]; exact Nat.ne_of_lt hlt), Heap.get?_update_ne _ _ _ _ hb]
    exact q
  show wpAny (model prog w) A _ P E { s with heap := ((s.heap.update a (Obj.mapSeq fun _ => #[])).push (seqObj "tuple" vs.toArray 0)).push (seqObj "list" #[] 0) }
  dsimp only
  have hn2 : ¬ vs.toArray.size < 2 := by rw [List.size_toArray]; omega
  rw [if_neg hn2, if_neg hn2]
  have run := hr _ keep (E := E) (P := fun st s' => wpAny (model prog w) A (do
      let sorted := (arrOf st).map (·.2)
      let touched := (← seqEpoch a) != e1
      Builtin.List.listUpdate (.ref a) fun _ => sorted
      if let some e := failedOf st then rule "list.sort.comparison-raised"; throw e
      if touched then rule "list.sort.modified"; raiseError "ValueError" "list modified during sort"
      ret .none) P E s') (fun st out hf har hl hR => ?_)
  · have := wpAny_bind run
    simp only [bind_assoc, pure_bind] at this
    exact this
  · rw [har]
    refine wpAny_bind (seqEpoch_at ho6 rfl ?_)
    refine wpAny_bind (listUpdate_at ho6 rfl ?_ (Nat.zero_le _) (by show out.toArray.size ≤ _; rw [List.size_toArray]; omega))
    rw [hf]
    simp only [bne_self_eq_false, Bool.false_eq_true, if_false]
    exact wpAny_pure (h out hl hR)
theorem sorted_raw {l : Addr} {vs : List Value} {Q : Value → Shared → Prop} {R : List Value → Prop} (hl : s.heap.IsList l vs.toArray) (h2 : 2 ≤ vs.length) (hz : vs.length ≤ sizeLine)
    (hr : ∀ h' : Heap, (∀ b o, s.heap.get? b = some o → h'.get? b = some o) → RunsTo prog w A.in1.in1 vs { s with heap := h' } R)
    (h : ∀ out : List Value, out.length = vs.length → R out → Q (.ref (s.heap.objs.size + 1)) { s with heap := sortedAll s.heap vs out.toArray }) :
    wpAny (model prog w) A (call (.builtin "sorted") [.ref l]) Q E s := by
  refine Calls.call_function_entry kind_sorted plain_sorted entry_sorted (args_sorted1 _) ?_
  unfold Builtin.«sorted»
  refine wpAny_bind (m := checkCount "sorted" 1 1 _) (wpAny_pure ?_)
  refine wpAny_bind (collect_list hl ?_ hz)
  refine wpAny_bind (wpAny_newList ?_ hz)
  have hsz : ((s.heap.push (seqObj "list" #[] 0)).update s.heap.objs.size (Obj.mapSeq (· ++ vs.toArray))).objs.size = s.heap.objs.size + 1 := by
    rw [Heap.size_update, size_push']
  have hoL : (((s.heap.push (seqObj "list" #[] 0)).update s.heap.objs.size (Obj.mapSeq (· ++ vs.toArray))).push (seqObj "list" vs.toArray 0)).get? (s.heap.objs.size + 1) = some (seqObj "list" vs.toArray 0) := by
    rw [← hsz]; exact Heap.get?_push_size _ rfl
  have keep : ∀ b o, s.heap.get? b = some o → (((s.heap.push (seqObj "list" #[] 0)).update s.heap.objs.size (Obj.mapSeq (· ++ vs.toArray))).push (seqObj "list" vs.toArray 0)).get? b = some o := fun b o q => by
    have hlt : b < s.heap.objs.size := Heap.lt_size q
    rw [Heap.get?_push_ne _ _ _ (by rw [hsz]; exact Nat.ne_of_lt (Nat.lt_succ_of_lt hlt)), Heap.get?_update_ne _ _ _ _ (Nat.ne_of_lt hlt), Heap.get?_push_ne _ _ _ (Nat.ne_of_lt hlt)]
    exact q
  show wpAny _ _ _ _ _ { s with heap := ((s.heap.push (seqObj "list" #[] 0)).update s.heap.objs.size (Obj.mapSeq (· ++ vs.toArray))).push (seqObj "list" vs.toArray 0) }
  rw [hsz]
  refine wpAny_bind (wpAny_holding (wpAny_call_entry slot_list_sort ⟨_, hoL, rfl⟩ entry_list_sort (list_sort_raw (R := R) hoL h2 hz (fun h' k => ?_) fun out a1 a2 => ⟨_, rfl, ?_⟩) (args_list_sort _)))
  · exact hr h' fun b o q => k b o (Nat.ne_of_lt (Nat.lt_succ_of_lt (Heap.lt_size q))) (keep b o q)
  · exact wpAny_pure ⟨_, rfl, h out a1 a2⟩
end
section
variable {X : Cx}
def rSortT (K : PySem.W.Frag) : List V → Hp → VK → Prop := fun vs H Q => ∃ l x y i j p q, vs = [.ref l] ∧ SqL K H l [.ref x, .ref y] ∧ SqT K H x [.int i, .int j] ∧ SqT K H y [.int p, .int q] ∧
  ∀ r, H r = none → Q (.ref r) (upd H r (.lst (if p < i ∨ (p = i ∧ q < j) then [.ref y, .ref x] else [.ref x, .ref y])))
end
end L2

set_option Elab.async false
set_option linter.all false
set_option maxRecDepth 100000
set_option maxHeartbeats 4000000
/-! The runs of a sort of any length: whatever the items are, if their order is told by numbers. -/
namespace L2
open PySem PySem.Spec PyProof.Rows
def gallop' : Bool → Keyed → Array Keyed → Nat → Nat → Nat → StateT SortSt Sem (Option Nat) := sortPriv% PySem.Builtin.gallop
local macro_rules | `(tactic| walk_at "gallop") => do
  let n := Lean.mkIdent ((Lean.Name.num `_private.PySem.Builtin.List.W1All 0) ++ `PySem.Builtin.gallop)
  `(tactic| (delta gallop'; delta $n:ident; dsimp only))
/-- what stands at a place -/
def R (ρ : Keyed → Int) (xs : Array Keyed) (i : Nat) : Int := (xs[i]?).elim 0 ρ
def SortedIn (ρ : Keyed → Int) (xs : Array Keyed) (lo hi : Nat) : Prop := ∀ i j, lo ≤ i → i ≤ j → j < hi → R ρ xs i ≤ R ρ xs j
section
variable {prog : Program} {w : World} {A : Around} {E : Value → Shared → Prop} {s : Shared} {a₀ : Array Keyed} {ρ : Keyed → Int} {k0 : SortKind}
/-- the order of the items is told by numbers -/
def LtBy (prog : Program) (w : World) (A : Around) (s : Shared) (k0 : SortKind) (ρ : Keyed → Int) (a₀ : Array Keyed) : Prop :=
  ∀ {E : Value → Shared → Prop} {st : SortSt} {x y : Keyed} {Q : Option Bool → SortSt → Prop}, kindOf st = k0 → x ∈ a₀.toList → y ∈ a₀.toList → Q (some (decide (ρ x < ρ y))) st → wpS (model prog w) A E s (lt' x y) Q st
theorem wpS_elem {xs : Array Keyed} {i : Nat} {x : Keyed} {st : SortSt} {Q : Keyed → SortSt → Prop} (hx : xs[i]? = some x) (h : Q x st) : wpS (model prog w) A E s (elem' xs i) Q st := by
  rw [elem'_eq, hx]; exact wpS_pure h
/-- one step of a search -/
def bey (ρ : Keyed → Int) (left : Bool) (key : Keyed) (v : Int) : Bool := if left then decide (v < ρ key) else !decide (ρ key < v)
theorem wpS_bey (hL : LtBy prog w A s k0 ρ a₀) {st : SortSt} (hk : kindOf st = k0) {left : Bool} {key x : Keyed} {arr : Array Keyed} {i : Nat} {Q : Option Bool → SortSt → Prop} (hkey : key ∈ a₀.toList) (hx : arr[i]? = some x) (hm : x ∈ a₀.toList) (h : Q (some (bey ρ left key (R ρ arr i))) st) :
    wpS (model prog w) A E s (elem' arr i >>= fun x => if left = true then lt' x key else lt' key x >>= fun r => pure (Option.map (fun x => !x) r)) Q st := by
  refine wpS_bind (wpS_elem hx ?_)
  have e : R ρ arr i = ρ x := by unfold R; rw [hx]; rfl
  rw [e] at h
  cases left with
  | true =>
    rw [if_pos rfl]
    exact hL hk hm hkey h
  | false =>
    rw [if_neg (by decide)]
    exact wpS_bind (hL hk hkey hm (wpS_pure h))
theorem wpS_gallop (hL : LtBy prog w A s k0 ρ a₀) {st : SortSt} (hk : kindOf st = k0) {left : Bool} {key : Keyed} {arr : Array Keyed} {base n hint : Nat} {Q : Option Nat → SortSt → Prop} (hkey : key ∈ a₀.toList) (harr : ∀ i, i < n → ∃ x, arr[base + i]? = some x ∧ x ∈ a₀.toList)
    (hs : SortedIn ρ arr base (base + n)) (hh : hint < n) (h : ∀ k, k ≤ n → (∀ i, i < k → bey ρ left key (R ρ arr (base + i)) = true) → (∀ i, k ≤ i → i < n → bey ρ left key (R ρ arr (base + i)) = false) → Q (some k) st) :
    wpS (model prog w) A E s (gallop' left key arr base n hint) Q st := by
  have hb : ∀ {i : Nat} {Q' : Option Bool → SortSt → Prop}, i < n → Q' (some (bey ρ left key (R ρ arr (base + i)))) st → wpS (model prog w) A E s (elem' arr (base + i) >>= fun x => if left = true then lt' x key else lt' key x >>= fun r => pure (Option.map (fun x => !x) r)) Q' st := fun hi q => by
    obtain ⟨x, hx, hm⟩ := harr _ hi
    exact wpS_bey hL hk hkey hx hm q
  have anti : ∀ i j, i ≤ j → j < n → bey ρ left key (R ρ arr (base + j)) = true → bey ρ left key (R ρ arr (base + i)) = true := fun i j hij hj e => by
    have := hs (base + i) (base + j) (by omega) (by omega) (by omega)
    unfold bey at e ⊢
    cases left with
    | true => simp only [if_true, decide_eq_true_eq] at e ⊢; omega
    | false => simp only [Bool.false_eq_true, if_false, Bool.not_eq_true', decide_eq_false_iff_not] at e ⊢; omega
  have antiF : ∀ i j, i ≤ j → j < n → bey ρ left key (R ρ arr (base + i)) = false → bey ρ left key (R ρ arr (base + j)) = false := fun i j hij hj e => by
    cases q : bey ρ left key (R ρ arr (base + j)) with
    | false => rfl
    | true => rw [anti i j hij hj q] at e; cases e
  generalize hP : (fun i => bey ρ left key (R ρ arr (base + i))) = P at *
  have hPi : ∀ i, bey ρ left key (R ρ arr (base + i)) = P i := fun i => by rw [← hP]
  simp only [hPi] at hb anti antiF h
  clear hP hPi
  walk_at "gallop"
  refine wpS_bind (hb hh ?_)
  cases hr : P hint with
  | true =>
    simp only [if_true]
    refine wpS_bind (wpS_mono (wpS_forRange (I := fun x c st' => st' = st ∧ ∃ l o, c = (none, l, o) ∧ l < o ∧ x + 1 ≤ o ∧ hint + l < n ∧ P (hint + l) = true)
      (Q := fun c st' => st' = st ∧ ∃ l o, c = (none, l, o) ∧ l < o ∧ hint + l < n ∧ P (hint + l) = true ∧ (n - hint ≤ o ∨ (hint + o < n ∧ P (hint + o) = false))) ?_ ?_ ⟨rfl, 0, 1, rfl, by omega, by omega, by omega, hr⟩) ?_)
    · rintro x c st' _ hx ⟨rfl, l, o, rfl, h1, h2, h3, h4⟩
      dsimp only
      split
      · rename_i g
        exact wpS_pure ⟨rfl, l, o, rfl, h1, h3, h4, .inl g⟩
      · rename_i g
        refine wpS_bind (hb (i := hint + o) (by omega) ?_)
        cases q : P (hint + o) with
        | true =>
          simp only [Bool.not_true, Bool.false_eq_true, if_false]
          exact wpS_pure ⟨rfl, o, 2 * o + 1, rfl, by omega, by omega, by omega, q⟩
        | false =>
          simp only [Bool.not_false, if_true]
          exact wpS_pure ⟨rfl, l, o, rfl, h1, h3, h4, .inr ⟨by omega, q⟩⟩
    · rintro c st' ⟨rfl, l, o, rfl, h1, h2, h3, h4⟩
      exact ⟨rfl, l, o, rfl, h1, h3, h4, .inl (by omega)⟩
    · rintro c st' ⟨rfl, l, o, rfl, h1, h3, h4, h5⟩
      dsimp only
      refine wpS_bind (wpS_mono (wpS_forRange (I := fun x c st'' => st'' = st' ∧ ∃ lo hi, c = (none, lo, hi) ∧ lo ≤ hi ∧ hi ≤ n ∧ hi - lo ≤ n - x ∧ (∀ i, i < lo → P i = true) ∧ (∀ i, hi ≤ i → i < n → P i = false))
        (Q := fun c st'' => st'' = st' ∧ ∃ lo hi, c = (none, lo, hi) ∧ lo ≤ hi ∧ hi ≤ lo ∧ hi ≤ n ∧ (∀ i, i < lo → P i = true) ∧ (∀ i, hi ≤ i → i < n → P i = false)) ?_ ?_ ⟨rfl, _, _, rfl, by omega, by omega, by omega, fun i hi => anti i _ (by omega) h3 h4, fun i hi hn => ?_⟩) ?_)
      · rintro x c st'' _ hx ⟨rfl, lo, hi, rfl, q1, q2, q3, q4, q5⟩
        dsimp only
        split
        · exact wpS_pure ⟨rfl, lo, hi, rfl, q1, by omega, q2, q4, q5⟩
        · refine wpS_bind (hb (i := lo + (hi - lo) / 2) (by omega) ?_)
          cases q : P (lo + (hi - lo) / 2) with
          | true =>
            simp only [if_true]
            exact wpS_pure ⟨rfl, _, hi, rfl, by omega, q2, by omega, fun i hi' => anti i _ (by omega) (by omega) q, q5⟩
          | false =>
            simp only [Bool.false_eq_true, if_false]
            exact wpS_pure ⟨rfl, lo, _, rfl, by omega, by omega, by omega, q4, fun i h1 h2 => antiF _ i h1 h2 q⟩
      · rintro c st'' ⟨rfl, lo, hi, rfl, q1, q2, q3, q4, q5⟩
        exact ⟨rfl, lo, hi, rfl, q1, by omega, q2, q4, q5⟩
      · rcases h5 with g | ⟨g1, g2⟩
        · omega
        · exact antiF _ i (by omega) hn g2
      · rintro c st'' ⟨rfl, lo, hi, rfl, q1, q2, q3, q4, q5⟩
        exact wpS_pure (h hi q3 (fun i hi' => q4 i (by omega)) q5)
  | false =>
    simp only [Bool.false_eq_true, if_false]
    refine wpS_bind (wpS_mono (wpS_forRange (I := fun x c st' => st' = st ∧ ∃ l o, c = (none, l, o) ∧ l < o ∧ x + 1 ≤ o ∧ l ≤ hint ∧ P (hint - l) = false)
      (Q := fun c st' => st' = st ∧ ∃ l o, c = (none, l, o) ∧ l < o ∧ l ≤ hint ∧ P (hint - l) = false ∧ (hint + 1 ≤ o ∨ (o ≤ hint ∧ P (hint - o) = true))) ?_ ?_ ⟨rfl, 0, 1, rfl, by omega, by omega, by omega, hr⟩) ?_)
    · rintro x c st' _ hx ⟨rfl, l, o, rfl, h1, h2, h3, h4⟩
      dsimp only
      split
      · rename_i g
        exact wpS_pure ⟨rfl, l, o, rfl, h1, h3, h4, .inl g⟩
      · rename_i g
        refine wpS_bind (hb (i := hint - o) (by omega) ?_)
        cases q : P (hint - o) with
        | true =>
          simp only [if_true]
          exact wpS_pure ⟨rfl, l, o, rfl, h1, h3, h4, .inr ⟨by omega, q⟩⟩
        | false =>
          simp only [Bool.false_eq_true, if_false]
          exact wpS_pure ⟨rfl, o, 2 * o + 1, rfl, by omega, by omega, by omega, q⟩
    · rintro c st' ⟨rfl, l, o, rfl, h1, h2, h3, h4⟩
      exact ⟨rfl, l, o, rfl, h1, h3, h4, .inl (by omega)⟩
    · rintro c st' ⟨rfl, l, o, rfl, h1, h3, h4, h5⟩
      dsimp only
      refine wpS_bind (wpS_mono (wpS_forRange (I := fun x c st'' => st'' = st' ∧ ∃ lo hi, c = (none, lo, hi) ∧ lo ≤ hi ∧ hi ≤ n ∧ hi - lo ≤ n - x ∧ (∀ i, i < lo → P i = true) ∧ (∀ i, hi ≤ i → i < n → P i = false))
        (Q := fun c st'' => st'' = st' ∧ ∃ lo hi, c = (none, lo, hi) ∧ lo ≤ hi ∧ hi ≤ lo ∧ hi ≤ n ∧ (∀ i, i < lo → P i = true) ∧ (∀ i, hi ≤ i → i < n → P i = false)) ?_ ?_ ⟨rfl, _, _, rfl, by omega, by omega, by omega, fun i hi => ?_, fun i hi hn => antiF _ i hi hn h4⟩) ?_)
      · rintro x c st'' _ hx ⟨rfl, lo, hi, rfl, q1, q2, q3, q4, q5⟩
        dsimp only
        split
        · exact wpS_pure ⟨rfl, lo, hi, rfl, q1, by omega, q2, q4, q5⟩
        · refine wpS_bind (hb (i := lo + (hi - lo) / 2) (by omega) ?_)
          cases q : P (lo + (hi - lo) / 2) with
          | true =>
            simp only [if_true]
            exact wpS_pure ⟨rfl, _, hi, rfl, by omega, q2, by omega, fun i hi' => anti i _ (by omega) (by omega) q, q5⟩
          | false =>
            simp only [Bool.false_eq_true, if_false]
            exact wpS_pure ⟨rfl, lo, _, rfl, by omega, by omega, by omega, q4, fun i h1 h2 => antiF _ i h1 h2 q⟩
      · rintro c st'' ⟨rfl, lo, hi, rfl, q1, q2, q3, q4, q5⟩
        exact ⟨rfl, lo, hi, rfl, q1, by omega, q2, q4, q5⟩
      · rcases h5 with g | ⟨g1, g2⟩
        · omega
        · exact anti i _ (by omega) (by omega) g2
      · rintro c st'' ⟨rfl, lo, hi, rfl, q1, q2, q3, q4, q5⟩
        exact wpS_pure (h hi q3 (fun i hi' => q4 i (by omega)) q5)
end
end L2

set_option Elab.async false
set_option linter.all false
set_option maxRecDepth 100000
set_option maxHeartbeats 4000000
namespace L2
open PySem PySem.Spec PyProof.Rows
section
variable {ρ : Keyed → Int} {a b out : Array Keyed} {ia ib k : Nat}
def Ls (ρ : Keyed → Int) (l : List Keyed) : Prop := l.Pairwise fun x y => ρ x ≤ ρ y
/-- how far a merge from the left has come -/
structure MI (ρ : Keyed → Int) (a b out : Array Keyed) (ia ib : Nat) : Prop where
  la : ia ≤ a.size
  lb : ib ≤ b.size
  pm : out.toList.Perm (a.toList.take ia ++ b.toList.take ib)
  so : Ls ρ out.toList
  le : ∀ x ∈ out.toList, ∀ y ∈ a.toList.drop ia ++ b.toList.drop ib, ρ x ≤ ρ y
/-- the merge is done -/
def RS (ρ : Keyed → Int) (a b r : Array Keyed) : Prop := r.toList.Perm (a.toList ++ b.toList) ∧ Ls ρ r.toList
theorem ext_l (xs : Array Keyed) (i j : Nat) : (xs.extract i j).toList = (xs.toList.drop i).take (j - i) := by
  simp [List.extract_eq_take_drop]
theorem Ls.app {l m : List Keyed} (hl : Ls ρ l) (hm : Ls ρ m) (h : ∀ x ∈ l, ∀ y ∈ m, ρ x ≤ ρ y) : Ls ρ (l ++ m) := List.pairwise_append.mpr ⟨hl, hm, h⟩
theorem Ls.sub {l m : List Keyed} (hl : Ls ρ l) (h : m.Sublist l) : Ls ρ m := List.Pairwise.sublist h hl
theorem Ls.split {l : List Keyed} (hl : Ls ρ l) (i : Nat) : ∀ x ∈ l.take i, ∀ y ∈ l.drop i, ρ x ≤ ρ y := by
  have := hl
  rw [← List.take_append_drop i l] at this
  exact (List.pairwise_append.mp this).2.2
theorem perm_mid {α : Type} (A B X : List α) : (A ++ B ++ X).Perm (A ++ X ++ B) := by
  rw [List.append_assoc, List.append_assoc]
  exact List.Perm.append_left A List.perm_append_comm
theorem MI.tA (h : MI ρ a b out ia ib) (hk : ia + k ≤ a.size) (sa : Ls ρ a.toList) (hc : ∀ x ∈ (a.toList.drop ia).take k, ∀ y ∈ b.toList.drop ib, ρ x ≤ ρ y) : MI ρ a b (out ++ a.extract ia (ia + k)) (ia + k) ib := by
  have e : (out ++ a.extract ia (ia + k)).toList = out.toList ++ (a.toList.drop ia).take k := by rw [Array.toList_append, ext_l, Nat.add_sub_cancel_left]
  have e1 : a.toList.take (ia + k) = a.toList.take ia ++ (a.toList.drop ia).take k := List.take_add
  have e2 : a.toList.drop ia = (a.toList.drop ia).take k ++ a.toList.drop (ia + k) := by rw [← List.drop_drop]; exact (List.take_append_drop _ _).symm
  refine ⟨hk, h.lb, ?_, ?_, ?_⟩
  · rw [e, e1]
    exact (h.pm.append_right _).trans (perm_mid _ _ _)
  · rw [e]
    exact h.so.app (sa.sub ((List.take_sublist _ _).trans (List.drop_sublist _ _))) fun x hx y hy => h.le x hx y (List.mem_append_left _ (List.mem_of_mem_take hy))
  · rw [e]
    intro x hx y hy
    rcases List.mem_append.mp hx with q | q
    · refine h.le x q y ?_
      rw [e2]
      rcases List.mem_append.mp hy with z | z
      · exact List.mem_append_left _ (List.mem_append_right _ z)
      · exact List.mem_append_right _ z
    · rcases List.mem_append.mp hy with z | z
      · have := (sa.sub (List.drop_sublist ia _)).split k x q y
        rw [List.drop_drop] at this
        exact this z
      · exact hc x q y z
theorem MI.tB (h : MI ρ a b out ia ib) (hk : ib + k ≤ b.size) (sb : Ls ρ b.toList) (hc : ∀ x ∈ (b.toList.drop ib).take k, ∀ y ∈ a.toList.drop ia, ρ x ≤ ρ y) : MI ρ a b (out ++ b.extract ib (ib + k)) ia (ib + k) := by
  have e : (out ++ b.extract ib (ib + k)).toList = out.toList ++ (b.toList.drop ib).take k := by rw [Array.toList_append, ext_l, Nat.add_sub_cancel_left]
  have e1 : b.toList.take (ib + k) = b.toList.take ib ++ (b.toList.drop ib).take k := List.take_add
  have e2 : b.toList.drop ib = (b.toList.drop ib).take k ++ b.toList.drop (ib + k) := by rw [← List.drop_drop]; exact (List.take_append_drop _ _).symm
  refine ⟨h.la, hk, ?_, ?_, ?_⟩
  · rw [e, e1, ← List.append_assoc]
    exact h.pm.append_right _
  · rw [e]
    exact h.so.app (sb.sub ((List.take_sublist _ _).trans (List.drop_sublist _ _))) fun x hx y hy => h.le x hx y (List.mem_append_right _ (List.mem_of_mem_take hy))
  · rw [e]
    intro x hx y hy
    rcases List.mem_append.mp hx with q | q
    · refine h.le x q y ?_
      rw [e2]
      rcases List.mem_append.mp hy with z | z
      · exact List.mem_append_left _ z
      · exact List.mem_append_right _ (List.mem_append_right _ z)
    · rcases List.mem_append.mp hy with z | z
      · exact hc x q y z
      · have := (sb.sub (List.drop_sublist ib _)).split k x q y
        rw [List.drop_drop] at this
        exact this z
theorem push_ext {xs : Array Keyed} {i : Nat} {x : Keyed} (hx : xs[i]? = some x) : out.push x = out ++ xs.extract i (i + 1) := by
  apply Array.ext'
  obtain ⟨hi, e⟩ := Array.getElem?_eq_some_iff.mp hx
  rw [Array.toList_push, Array.toList_append, ext_l, Nat.add_sub_cancel_left, List.drop_eq_getElem_cons (by simpa using hi), List.take_succ_cons, List.take_zero]
  simp [e]
theorem one_take {xs : Array Keyed} {i : Nat} {x z : Keyed} (hx : xs[i]? = some x) (hz : z ∈ (xs.toList.drop i).take 1) : z = x := by
  obtain ⟨hi, e⟩ := Array.getElem?_eq_some_iff.mp hx
  rw [List.drop_eq_getElem_cons (by simpa using hi), List.take_succ_cons, List.take_zero] at hz
  simpa [e] using hz
theorem R_at {xs : Array Keyed} {i : Nat} {x : Keyed} (hx : xs[i]? = some x) : R ρ xs i = ρ x := by unfold R; rw [hx]; rfl
theorem Ls.rest {xs : Array Keyed} (h : Ls ρ xs.toList) {i : Nat} {x : Keyed} (hx : xs[i]? = some x) {y : Keyed} (hy : y ∈ xs.toList.drop i) : ρ x ≤ ρ y := by
  obtain ⟨hi, e⟩ := Array.getElem?_eq_some_iff.mp hx
  have hd := h.sub (List.drop_sublist i _)
  rw [List.drop_eq_getElem_cons (by simpa using hi)] at hd hy
  rcases List.mem_cons.mp hy with q | q
  · rw [q]; simp [e]
  · have := (List.pairwise_cons.mp hd).1 y q
    simpa [e] using this
/-- one from the left -/
theorem MI.pA (h : MI ρ a b out ia ib) (sa : Ls ρ a.toList) (sb : Ls ρ b.toList) {x : Keyed} (hx : a[ia]? = some x) (hc : ∀ y, b[ib]? = some y → ρ x ≤ ρ y) : MI ρ a b (out.push x) (ia + 1) ib := by
  rw [push_ext hx]
  refine h.tA (Array.getElem?_eq_some_iff.mp hx).1 sa fun z hz y hy => ?_
  rw [one_take hx hz]
  cases hb : b[ib]? with
  | none =>
    have : b.size ≤ ib := by simpa using hb
    rw [List.drop_eq_nil_of_le (by simpa using this)] at hy
    simp at hy
  | some v => exact Int.le_trans (hc v hb) (sb.rest hb hy)
theorem MI.pB (h : MI ρ a b out ia ib) (sa : Ls ρ a.toList) (sb : Ls ρ b.toList) {x : Keyed} (hx : b[ib]? = some x) (hc : ∀ y, a[ia]? = some y → ρ x ≤ ρ y) : MI ρ a b (out.push x) ia (ib + 1) := by
  rw [push_ext hx]
  refine h.tB (Array.getElem?_eq_some_iff.mp hx).1 sb fun z hz y hy => ?_
  rw [one_take hx hz]
  cases hb : a[ia]? with
  | none =>
    have : a.size ≤ ia := by simpa using hb
    rw [List.drop_eq_nil_of_le (by simpa using this)] at hy
    simp at hy
  | some v => exact Int.le_trans (hc v hb) (sa.rest hb hy)
theorem perm_four {α : Type} (A A' B B' : List α) : ((A ++ B) ++ A' ++ B').Perm ((A ++ A') ++ (B ++ B')) := by
  refine ((perm_mid A B A').append_right B').trans ?_
  rw [List.append_assoc]
/-- no more on one side -/
theorem MI.done (h : MI ρ a b out ia ib) (sa : Ls ρ a.toList) (sb : Ls ρ b.toList) (hd : ia = a.size ∨ ib = b.size) : RS ρ a b (out ++ a.extract ia a.size ++ b.extract ib b.size) := by
  have e : (out ++ a.extract ia a.size ++ b.extract ib b.size).toList = out.toList ++ a.toList.drop ia ++ b.toList.drop ib := by
    rw [Array.toList_append, Array.toList_append, ext_l, ext_l, List.take_of_length_le (by simp), List.take_of_length_le (by simp)]
  refine ⟨?_, ?_⟩
  · rw [e]
    refine ((h.pm.append_right _).append_right _).trans ((perm_four _ _ _ _).trans ?_)
    rw [List.take_append_drop, List.take_append_drop]
  · rw [e, List.append_assoc]
    refine h.so.app ?_ h.le
    refine (sa.sub (List.drop_sublist _ _)).app (sb.sub (List.drop_sublist _ _)) fun x hx y hy => ?_
    rcases hd with q | q
    · rw [q, List.drop_eq_nil_of_le (by simp)] at hx; simp at hx
    · rw [q, List.drop_eq_nil_of_le (by simp)] at hy; simp at hy
/-- but one on the left, and this one is the greatest -/
theorem MI.lastA (h : MI ρ a b out ia ib) (sa : Ls ρ a.toList) (sb : Ls ρ b.toList) (hg : ∀ x ∈ a.toList.drop ia, ∀ y ∈ b.toList, ρ y ≤ ρ x) : RS ρ a b (out ++ b.extract ib b.size ++ a.extract ia a.size) := by
  have e : (out ++ b.extract ib b.size ++ a.extract ia a.size).toList = out.toList ++ b.toList.drop ib ++ a.toList.drop ia := by
    rw [Array.toList_append, Array.toList_append, ext_l, ext_l, List.take_of_length_le (by simp), List.take_of_length_le (by simp)]
  refine ⟨?_, ?_⟩
  · rw [e]
    refine (perm_mid _ _ _).trans (((h.pm.append_right _).append_right _).trans ((perm_four _ _ _ _).trans ?_))
    rw [List.take_append_drop, List.take_append_drop]
  · rw [e, List.append_assoc]
    refine h.so.app ?_ fun x hx y hy => h.le x hx y ?_
    · exact (sb.sub (List.drop_sublist _ _)).app (sa.sub (List.drop_sublist _ _)) fun x hx y hy => hg y hy x (List.mem_of_mem_drop hx)
    · rcases List.mem_append.mp hy with z | z
      · exact List.mem_append_right _ z
      · exact List.mem_append_left _ z
end
end L2

set_option Elab.async false
set_option linter.all false
set_option maxRecDepth 100000
set_option maxHeartbeats 4000000
namespace L2
open PySem PySem.Spec PyProof.Rows
def mergeLo' : Array Keyed → Array Keyed → StateT SortSt Sem (Array Keyed) := sortPriv% PySem.Builtin.mergeLo
def setMinGallop' : Nat → StateT SortSt Sem Unit := sortPriv% PySem.Builtin.setMinGallop
local macro_rules | `(tactic| walk_at "mergeLo") => do
  let n := Lean.mkIdent ((Lean.Name.num `_private.PySem.Builtin.List.W1All 0) ++ `PySem.Builtin.mergeLo)
  `(tactic| (delta mergeLo'; delta $n:ident; dsimp only))
local macro_rules | `(tactic| walk_at "setMin") => do
  let n := Lean.mkIdent ((Lean.Name.num `_private.PySem.Builtin.List.W1All 0) ++ `PySem.Builtin.setMinGallop)
  `(tactic| (delta setMinGallop'; delta $n:ident))
/-- all but the bound of searches is the same -/
structure GS (st st' : SortSt) : Prop where
  kd : kindOf st' = kindOf st
  ar : arrOf st' = arrOf st
  pe : pendingOf st' = pendingOf st
  fl : failedOf st' = failedOf st
theorem GS.refl (st : SortSt) : GS st st := ⟨rfl, rfl, rfl, rfl⟩
theorem GS.trans {a b c : SortSt} (h : GS a b) (h' : GS b c) : GS a c := ⟨h'.kd.trans h.kd, h'.ar.trans h.ar, h'.pe.trans h.pe, h'.fl.trans h.fl⟩
section
variable {prog : Program} {w : World} {A : Around} {E : Value → Shared → Prop} {s : Shared} {a₀ : Array Keyed} {ρ : Keyed → Int} {k0 : SortKind} {a b : Array Keyed}
theorem wpS_setMin {st : SortSt} {g : Nat} {Q : Unit → SortSt → Prop} (h : ∀ st', GS st st' → Q () st') : wpS (model prog w) A E s (setMinGallop' g) Q st := by
  walk_at "setMin"
  exact wpS_modify (h _ ⟨rfl, rfl, rfl, rfl⟩)
theorem wpS_ite {α : Type} {c : Prop} [Decidable c] {m1 m2 : StateT SortSt Sem α} {Q : α → SortSt → Prop} {st : SortSt} {M : Model} (h1 : c → wpS M A E s m1 Q st) (h2 : ¬ c → wpS M A E s m2 Q st) : wpS M A E s (if c then m1 else m2) Q st := by
  by_cases g : c
  · rw [if_pos g]; exact h1 g
  · rw [if_neg g]; exact h2 g
theorem mem_at {xs : Array Keyed} (h : ∀ x ∈ xs.toList, x ∈ a₀.toList) {i : Nat} (hi : i < xs.size) : ∃ x, xs[i]? = some x ∧ x ∈ a₀.toList := ⟨xs[i], Array.getElem?_eq_getElem hi, h _ (by simp)⟩
theorem at_mem {xs : Array Keyed} {i : Nat} {x : Keyed} (h : xs[i]? = some x) : x ∈ xs.toList := by
  obtain ⟨hi, rfl⟩ := Array.getElem?_eq_some_iff.mp h
  simp
theorem mem_win {xs : Array Keyed} {i k : Nat} {x : Keyed} (h : x ∈ (xs.toList.drop i).take k) : ∃ j, j < k ∧ xs[i + j]? = some x := by
  obtain ⟨j, hj, e⟩ := List.mem_iff_getElem.mp h
  rw [List.length_take, List.length_drop] at hj
  refine ⟨j, by omega, ?_⟩
  rw [List.getElem_take, List.getElem_drop] at e
  rw [Array.getElem?_eq_getElem (by simp at hj; omega)]
  simpa using e
theorem Ls.inn {xs : Array Keyed} (h : Ls ρ xs.toList) {lo hi : Nat} (hh : hi ≤ xs.size) : SortedIn ρ xs lo hi := fun i j _ hij hj => by
  have hi' : i < xs.size := by omega
  have hj' : j < xs.size := by omega
  rw [R_at (Array.getElem?_eq_getElem hi')]
  rw [R_at (Array.getElem?_eq_getElem hj')]
  refine h.rest (i := i) (Array.getElem?_eq_getElem hi') ?_
  rw [List.mem_iff_getElem]
  exact ⟨j - i, by simp; omega, by rw [List.getElem_drop]; simp; congr 1; omega⟩
theorem bey_f {key : Keyed} {v : Int} : bey ρ false key v = true ↔ v ≤ ρ key := by unfold bey; simp
theorem bey_t {key : Keyed} {v : Int} : bey ρ true key v = true ↔ v < ρ key := by unfold bey; simp
theorem bey_ff {key : Keyed} {v : Int} : bey ρ false key v = false ↔ ρ key < v := by unfold bey; simp
theorem bey_tf {key : Keyed} {v : Int} : bey ρ true key v = false ↔ ρ key ≤ v := by unfold bey; simp
theorem wpS_mergeLo (hL : LtBy prog w A s k0 ρ a₀) {st : SortSt} (hk : kindOf st = k0) {Q : Array Keyed → SortSt → Prop} (sa : Ls ρ a.toList) (sb : Ls ρ b.toList) (ma : ∀ x ∈ a.toList, x ∈ a₀.toList) (mb : ∀ x ∈ b.toList, x ∈ a₀.toList) (na : 1 ≤ a.size) (nb : 1 ≤ b.size)
    (hfirst : ∀ x y, a[0]? = some x → b[0]? = some y → ρ y ≤ ρ x) (hlast : ∀ x ∈ a.toList.drop (a.size - 1), ∀ y ∈ b.toList, ρ y ≤ ρ x) (h : ∀ r st', GS st st' → RS ρ a b r → Q r st') : wpS (model prog w) A E s (mergeLo' a b) Q st := by
  walk_at "mergeLo"
  refine wpS_bind (wpS_lift (wpAny_rule ⟨rfl, ?_⟩))
  obtain ⟨y0, hy0, my0⟩ := mem_at mb (i := 0) (by omega)
  refine wpS_bind (wpS_elem hy0 ?_)
  have mI : MI ρ a b #[] 0 0 := ⟨by omega, by omega, by simp, by simp [Ls], by simp⟩
  have m1 : MI ρ a b #[y0] 0 1 := mI.pB sa sb hy0 (fun x hx => hfirst x y0 hx hy0)
  refine wpS_ite (fun g => ?_) (fun _ => ?_)
  · exact wpS_pure (h _ _ (GS.refl _) (m1.done sa sb (.inr (by simpa using g))))
  rename_i g1
  have g1' : ¬ 1 = b.size := by simpa using g1
  refine wpS_ite (fun g => ?_) (fun _ => ?_)
  · have g' : 0 + 1 = a.size := by simpa using g
    exact wpS_pure (h _ _ (GS.refl _) (m1.lastA sa sb (fun x hx => hlast x (by rw [show a.size - 1 = 0 by omega]; exact hx))))
  rename_i g2
  have g2' : ¬ 0 + 1 = a.size := by simpa using g2
  refine wpS_bind (wpS_get ?_)
  refine wpS_bind (wpS_mono (wpS_forRange (I := fun x c st' => GS st st' ∧ ∃ out ia ib g, c = (none, out, ia, ib, g) ∧ MI ρ a b out ia ib ∧ ia + 1 < a.size ∧ ib < b.size ∧ x + 1 ≤ ia + ib)
    (Q := fun c st' => GS st st' ∧ ∃ r rest, c = (some r, rest) ∧ RS ρ a b r) ?step ?fin ⟨GS.refl _, _, _, _, _, rfl, m1, by omega, by omega, by omega⟩) ?post)
  case fin =>
    rintro c st' ⟨gs, out, ia, ib, g, rfl, m, q1, q2, q3⟩
    omega
  case post =>
    rintro c st' ⟨gs, r, rest, rfl, hr⟩
    exact wpS_pure (h _ _ gs hr)
  case step =>
    rintro x c st' _ hx ⟨gs, out, ia, ib, g, rfl, m, lA, lB, hp⟩
    dsimp only
    refine wpS_bind (wpS_mono (wpS_forRange (I := fun y c st'' => st'' = st' ∧ ∃ out' ia' ib' ac bc, c = (none, out', ia', ib', ac, bc) ∧ MI ρ a b out' ia' ib' ∧ ia' + 1 < a.size ∧ ib' < b.size ∧ y + (ia + ib) ≤ ia' + ib')
      (Q := fun c st'' => st'' = st' ∧ ((∃ r rest, c = (some r, rest) ∧ RS ρ a b r) ∨ ∃ out' ia' ib' ac bc, c = (none, out', ia', ib', ac, bc) ∧ MI ρ a b out' ia' ib' ∧ ia' + 1 < a.size ∧ ib' < b.size ∧ ia + ib + 1 ≤ ia' + ib')) ?step1 ?fin1 ⟨rfl, _, _, _, _, _, rfl, m, lA, lB, by omega⟩) ?post1)
    case fin1 =>
      rintro c st'' ⟨rfl, out', ia', ib', ac, bc, rfl, m', q1, q2, q3⟩
      omega
    case step1 =>
      rintro y c st'' _ hy ⟨rfl, out', ia', ib', ac, bc, rfl, m', lA', lB', hp'⟩
      dsimp only
      have hk' : kindOf st'' = k0 := gs.kd.trans hk
      obtain ⟨yb, hyb, myb⟩ := mem_at mb (i := ib') (by omega)
      obtain ⟨xa, hxa, mxa⟩ := mem_at ma (i := ia') (by omega)
      refine wpS_bind (wpS_elem hyb ?_)
      refine wpS_bind (wpS_elem hxa ?_)
      refine wpS_bind (hL hk' myb mxa ?_)
      by_cases hlt : ρ yb < ρ xa
      · simp only [hlt, decide_true, if_true]
        refine wpS_bind (wpS_elem hyb ?_)
        have mB := m'.pB sa sb hyb (fun x hx => by rw [hxa] at hx; cases hx; omega)
        refine wpS_ite (fun c0 => ?_) (fun _ => ?_)
        · exact wpS_pure ⟨rfl, .inl ⟨_, _, rfl, mB.done sa sb (.inr (by simpa using c0))⟩⟩
        rename_i c0
        have c0' : ¬ ib' + 1 = b.size := by simpa using c0
        refine wpS_ite (fun _ => ?_) (fun _ => ?_)
        · exact wpS_pure ⟨rfl, .inr ⟨_, _, _, _, _, rfl, mB, lA', by omega, by omega⟩⟩
        · exact wpS_pure ⟨rfl, _, _, _, _, _, rfl, mB, lA', by omega, by omega⟩
      · simp only [hlt, decide_false, Bool.false_eq_true, if_false]
        refine wpS_bind (wpS_elem hxa ?_)
        have mA := m'.pA sa sb hxa (fun x hx => by rw [hyb] at hx; cases hx; omega)
        refine wpS_ite (fun c0 => ?_) (fun _ => ?_)
        · have c0' : ia' + 1 + 1 = a.size := by simpa using c0
          exact wpS_pure ⟨rfl, .inl ⟨_, _, rfl, mA.lastA sa sb (fun x hx => hlast x (by rw [show a.size - 1 = ia' + 1 by omega]; exact hx))⟩⟩
        rename_i c0
        have c0' : ¬ ia' + 1 + 1 = a.size := by simpa using c0
        refine wpS_ite (fun _ => ?_) (fun _ => ?_)
        · exact wpS_pure ⟨rfl, .inr ⟨_, _, _, _, _, rfl, mA, by omega, lB', by omega⟩⟩
        · exact wpS_pure ⟨rfl, _, _, _, _, _, rfl, mA, by omega, lB', by omega⟩
    case post1 =>
      rintro c st'' ⟨rfl, ⟨r, rest, rfl, hr⟩ | ⟨out', ia', ib', ac, bc, rfl, m', lA', lB', hp'⟩⟩
      · dsimp only
        exact wpS_pure ⟨gs, r, _, rfl, hr⟩
      dsimp only
      refine wpS_bind (wpS_lift (wpAny_rule ⟨rfl, ?_⟩))
      refine wpS_bind (wpS_mono (wpS_forRange (I := fun z c st3 => GS st st3 ∧ ∃ out ia ib g ac bc, c = (none, out, ia, ib, g, ac, bc) ∧ MI ρ a b out ia ib ∧ ia + 1 < a.size ∧ ib < b.size ∧ z + (ia' + ib') ≤ ia + ib)
        (Q := fun c st3 => GS st st3 ∧ ((∃ r rest, c = (some r, rest) ∧ RS ρ a b r) ∨ ∃ out ia ib g ac bc, c = (none, out, ia, ib, g, ac, bc) ∧ MI ρ a b out ia ib ∧ ia + 1 < a.size ∧ ib < b.size ∧ ia' + ib' ≤ ia + ib)) ?step2 ?fin2 ⟨gs, _, _, _, _, _, _, rfl, m', lA', lB', by omega⟩) ?post2)
      case fin2 =>
        rintro c st3 ⟨gs, out, ia, ib, g, ac, bc, rfl, m, q1, q2, q3⟩
        omega
      case post2 =>
        rintro c st3 ⟨gs, ⟨r, rest, rfl, hr⟩ | ⟨out, ia, ib, g, ac, bc, rfl, m, lA, lB, hp⟩⟩
        · dsimp only
          exact wpS_pure ⟨gs, r, _, rfl, hr⟩
        · dsimp only
          refine wpS_bind (wpS_setMin fun st4 gs4 => ?_)
          exact wpS_pure ⟨gs.trans gs4, _, _, _, _, rfl, m, lA, lB, by omega⟩
      case step2 =>
        clear m lA lB hp m' lA' lB'
        rintro z c st' _ hz ⟨gs, out, ia, ib, g, ac, bc, rfl, m, lA, lB, hp⟩
        dsimp only
        refine wpS_ite (fun _ => ?_) (fun _ => ?_)
        · refine wpS_bind (wpS_setMin fun st3 gs3 => ?_)
          have gs2 := gs.trans gs3
          have hk2 : kindOf st3 = k0 := gs2.kd.trans hk
          obtain ⟨y, hy, my⟩ := mem_at mb (i := ib) (by omega)
          refine wpS_bind (wpS_elem hy ?_)
          refine wpS_bind (wpS_gallop hL hk2 my (fun i hi => mem_at ma (by omega)) (sa.inn (by omega)) (by omega) fun k i1 i2 i3 => ?_)
          dsimp only
          have mA := m.tA (k := k) (by omega) sa (fun z hz y' hy' => by
            obtain ⟨j, hj, e⟩ := mem_win hz
            have := bey_f.mp (i2 j hj)
            rw [R_at e] at this
            have := sb.rest hy hy'
            omega)
          have hgt : ∀ x, a[ia + k]? = some x → ρ y ≤ ρ x := fun x hx => by
            have hl := (Array.getElem?_eq_some_iff.mp hx).1
            have := bey_ff.mp (i3 k (Nat.le_refl _) (by omega))
            rw [R_at hx] at this
            omega
          refine wpS_ite (fun kp => ?_) (fun _ => ?_)
          · refine wpS_ite (fun c3 => ?_) (fun _ => ?_)
            · have c3' : ia + k + 1 = a.size := by simpa using c3
              exact wpS_pure ⟨gs2, .inl ⟨_, _, rfl, mA.lastA sa sb (fun x hx => hlast x (by rw [show a.size - 1 = ia + k by omega]; exact hx))⟩⟩
            rename_i c3
            have c3' : ¬ ia + k + 1 = a.size := by simpa using c3
            refine wpS_ite (fun c4 => ?_) (fun _ => ?_)
            · exact wpS_pure ⟨gs2, .inl ⟨_, _, rfl, mA.done sa sb (.inl (by simpa using c4))⟩⟩
            rename_i c4
            have c4' : ¬ ia + k = a.size := by simpa using c4
            have hia : ia + k + 1 < a.size := by have := mA.la; omega
            obtain ⟨y1, hy1, my1⟩ := mem_at mb (i := ib) (by omega)
            refine wpS_bind (wpS_elem hy1 ?_)
            rw [hy] at hy1
            cases hy1
            have mB := mA.pB sa sb hy hgt
            refine wpS_ite (fun c0 => ?_) (fun _ => ?_)
            · exact wpS_pure ⟨gs2, .inl ⟨_, _, rfl, mB.done sa sb (.inr (by simpa using c0))⟩⟩
            rename_i c0
            have c0' : ¬ ib + 1 = b.size := by simpa using c0
            obtain ⟨x1, hx1, mx1⟩ := mem_at ma (i := (ia + k)) (by omega)
            refine wpS_bind (wpS_elem hx1 ?_)
            refine wpS_bind (wpS_gallop hL hk2 mx1 (fun i hi => mem_at mb (by omega)) (sb.inn (by omega)) (by omega) fun k' j1 j2 j3 => ?_)
            dsimp only
            have mB2 := mB.tB (k := k') (by omega) sb (fun z hz y' hy' => by
              obtain ⟨j, hj, e⟩ := mem_win hz
              have := bey_t.mp (j2 j hj)
              rw [R_at e] at this
              have := sa.rest hx1 hy'
              omega)
            refine wpS_ite (fun k0' => ?_) (fun _ => ?_)
            · refine wpS_ite (fun c2 => ?_) (fun _ => ?_)
              · exact wpS_pure ⟨gs2, .inl ⟨_, _, rfl, mB2.done sa sb (.inr (by simpa using c2))⟩⟩
              rename_i c2
              have c2' : ¬ ib + 1 + k' = b.size := by simpa using c2
              have lib2 : ib + 1 + k' < b.size := by have := mB2.lb; omega
              obtain ⟨x2, hx2, mx2⟩ := mem_at ma (i := (ia + k)) (by omega)
              refine wpS_bind (wpS_elem hx2 ?_)
              rw [hx1] at hx2
              cases hx2
              have mC := mB2.pA sa sb hx1 (fun y' hy' => by rw [← R_at (ρ := ρ) hy']; exact bey_tf.mp (j3 k' (Nat.le_refl _) (by omega)))
              refine wpS_ite (fun c1 => ?_) (fun _ => ?_)
              · have c1' : (ia + k) + 1 + 1 = a.size := by simpa using c1
                exact wpS_pure ⟨gs2, .inl ⟨_, _, rfl, mC.lastA sa sb (fun x hx => hlast x (by rw [show a.size - 1 = (ia + k) + 1 by omega]; exact hx))⟩⟩
              rename_i c1
              have c1' : ¬ (ia + k) + 1 + 1 = a.size := by simpa using c1
              have lia := mC.la
              refine wpS_ite (fun _ => ?_) (fun _ => ?_)
              · exact wpS_pure ⟨gs2, .inr ⟨_, _, _, _, _, _, rfl, mC, by omega, by have := lib2; omega, by omega⟩⟩
              · exact wpS_pure ⟨gs2, _, _, _, _, _, _, rfl, mC, by omega, by have := lib2; omega, by omega⟩
            · rename_i k0'
              have k0'' : k' = 0 := by omega
              subst k0''
              have lib2 : ib + 1 < b.size := by omega
              obtain ⟨x2, hx2, mx2⟩ := mem_at ma (i := (ia + k)) (by omega)
              refine wpS_bind (wpS_elem hx2 ?_)
              rw [hx1] at hx2
              cases hx2
              have mC := mB.pA sa sb hx1 (fun y' hy' => by rw [← R_at (ρ := ρ) hy']; exact bey_tf.mp (j3 0 (Nat.le_refl _) (by omega)))
              refine wpS_ite (fun c1 => ?_) (fun _ => ?_)
              · have c1' : (ia + k) + 1 + 1 = a.size := by simpa using c1
                exact wpS_pure ⟨gs2, .inl ⟨_, _, rfl, mC.lastA sa sb (fun x hx => hlast x (by rw [show a.size - 1 = (ia + k) + 1 by omega]; exact hx))⟩⟩
              rename_i c1
              have c1' : ¬ (ia + k) + 1 + 1 = a.size := by simpa using c1
              have lia := mC.la
              refine wpS_ite (fun _ => ?_) (fun _ => ?_)
              · exact wpS_pure ⟨gs2, .inr ⟨_, _, _, _, _, _, rfl, mC, by omega, by have := lib2; omega, by omega⟩⟩
              · exact wpS_pure ⟨gs2, _, _, _, _, _, _, rfl, mC, by omega, by have := lib2; omega, by omega⟩
          · rename_i kp
            have kp' : k = 0 := by omega
            subst kp'
            have hia : ia + 1 < a.size := lA
            obtain ⟨y1, hy1, my1⟩ := mem_at mb (i := ib) (by omega)
            refine wpS_bind (wpS_elem hy1 ?_)
            rw [hy] at hy1
            cases hy1
            have mB := m.pB sa sb hy hgt
            refine wpS_ite (fun c0 => ?_) (fun _ => ?_)
            · exact wpS_pure ⟨gs2, .inl ⟨_, _, rfl, mB.done sa sb (.inr (by simpa using c0))⟩⟩
            rename_i c0
            have c0' : ¬ ib + 1 = b.size := by simpa using c0
            obtain ⟨x1, hx1, mx1⟩ := mem_at ma (i := ia) (by omega)
            refine wpS_bind (wpS_elem hx1 ?_)
            refine wpS_bind (wpS_gallop hL hk2 mx1 (fun i hi => mem_at mb (by omega)) (sb.inn (by omega)) (by omega) fun k' j1 j2 j3 => ?_)
            dsimp only
            have mB2 := mB.tB (k := k') (by omega) sb (fun z hz y' hy' => by
              obtain ⟨j, hj, e⟩ := mem_win hz
              have := bey_t.mp (j2 j hj)
              rw [R_at e] at this
              have := sa.rest hx1 hy'
              omega)
            refine wpS_ite (fun k0' => ?_) (fun _ => ?_)
            · refine wpS_ite (fun c2 => ?_) (fun _ => ?_)
              · exact wpS_pure ⟨gs2, .inl ⟨_, _, rfl, mB2.done sa sb (.inr (by simpa using c2))⟩⟩
              rename_i c2
              have c2' : ¬ ib + 1 + k' = b.size := by simpa using c2
              have lib2 : ib + 1 + k' < b.size := by have := mB2.lb; omega
              obtain ⟨x2, hx2, mx2⟩ := mem_at ma (i := ia) (by omega)
              refine wpS_bind (wpS_elem hx2 ?_)
              rw [hx1] at hx2
              cases hx2
              have mC := mB2.pA sa sb hx1 (fun y' hy' => by rw [← R_at (ρ := ρ) hy']; exact bey_tf.mp (j3 k' (Nat.le_refl _) (by omega)))
              refine wpS_ite (fun c1 => ?_) (fun _ => ?_)
              · have c1' : ia + 1 + 1 = a.size := by simpa using c1
                exact wpS_pure ⟨gs2, .inl ⟨_, _, rfl, mC.lastA sa sb (fun x hx => hlast x (by rw [show a.size - 1 = ia + 1 by omega]; exact hx))⟩⟩
              rename_i c1
              have c1' : ¬ ia + 1 + 1 = a.size := by simpa using c1
              have lia := mC.la
              refine wpS_ite (fun _ => ?_) (fun _ => ?_)
              · exact wpS_pure ⟨gs2, .inr ⟨_, _, _, _, _, _, rfl, mC, by omega, by have := lib2; omega, by omega⟩⟩
              · exact wpS_pure ⟨gs2, _, _, _, _, _, _, rfl, mC, by omega, by have := lib2; omega, by omega⟩
            · rename_i k0'
              have k0'' : k' = 0 := by omega
              subst k0''
              have lib2 : ib + 1 < b.size := by omega
              obtain ⟨x2, hx2, mx2⟩ := mem_at ma (i := ia) (by omega)
              refine wpS_bind (wpS_elem hx2 ?_)
              rw [hx1] at hx2
              cases hx2
              have mC := mB.pA sa sb hx1 (fun y' hy' => by rw [← R_at (ρ := ρ) hy']; exact bey_tf.mp (j3 0 (Nat.le_refl _) (by omega)))
              refine wpS_ite (fun c1 => ?_) (fun _ => ?_)
              · have c1' : ia + 1 + 1 = a.size := by simpa using c1
                exact wpS_pure ⟨gs2, .inl ⟨_, _, rfl, mC.lastA sa sb (fun x hx => hlast x (by rw [show a.size - 1 = ia + 1 by omega]; exact hx))⟩⟩
              rename_i c1
              have c1' : ¬ ia + 1 + 1 = a.size := by simpa using c1
              have lia := mC.la
              refine wpS_ite (fun _ => ?_) (fun _ => ?_)
              · exact wpS_pure ⟨gs2, .inr ⟨_, _, _, _, _, _, rfl, mC, by omega, by have := lib2; omega, by omega⟩⟩
              · exact wpS_pure ⟨gs2, _, _, _, _, _, _, rfl, mC, by omega, by have := lib2; omega, by omega⟩
        · refine wpS_bind (wpS_setMin fun st3 gs3 => ?_)
          have gs2 := gs.trans gs3
          have hk2 : kindOf st3 = k0 := gs2.kd.trans hk
          obtain ⟨y, hy, my⟩ := mem_at mb (i := ib) (by omega)
          refine wpS_bind (wpS_elem hy ?_)
          refine wpS_bind (wpS_gallop hL hk2 my (fun i hi => mem_at ma (by omega)) (sa.inn (by omega)) (by omega) fun k i1 i2 i3 => ?_)
          dsimp only
          have mA := m.tA (k := k) (by omega) sa (fun z hz y' hy' => by
            obtain ⟨j, hj, e⟩ := mem_win hz
            have := bey_f.mp (i2 j hj)
            rw [R_at e] at this
            have := sb.rest hy hy'
            omega)
          have hgt : ∀ x, a[ia + k]? = some x → ρ y ≤ ρ x := fun x hx => by
            have hl := (Array.getElem?_eq_some_iff.mp hx).1
            have := bey_ff.mp (i3 k (Nat.le_refl _) (by omega))
            rw [R_at hx] at this
            omega
          refine wpS_ite (fun kp => ?_) (fun _ => ?_)
          · refine wpS_ite (fun c3 => ?_) (fun _ => ?_)
            · have c3' : ia + k + 1 = a.size := by simpa using c3
              exact wpS_pure ⟨gs2, .inl ⟨_, _, rfl, mA.lastA sa sb (fun x hx => hlast x (by rw [show a.size - 1 = ia + k by omega]; exact hx))⟩⟩
            rename_i c3
            have c3' : ¬ ia + k + 1 = a.size := by simpa using c3
            refine wpS_ite (fun c4 => ?_) (fun _ => ?_)
            · exact wpS_pure ⟨gs2, .inl ⟨_, _, rfl, mA.done sa sb (.inl (by simpa using c4))⟩⟩
            rename_i c4
            have c4' : ¬ ia + k = a.size := by simpa using c4
            have hia : ia + k + 1 < a.size := by have := mA.la; omega
            obtain ⟨y1, hy1, my1⟩ := mem_at mb (i := ib) (by omega)
            refine wpS_bind (wpS_elem hy1 ?_)
            rw [hy] at hy1
            cases hy1
            have mB := mA.pB sa sb hy hgt
            refine wpS_ite (fun c0 => ?_) (fun _ => ?_)
            · exact wpS_pure ⟨gs2, .inl ⟨_, _, rfl, mB.done sa sb (.inr (by simpa using c0))⟩⟩
            rename_i c0
            have c0' : ¬ ib + 1 = b.size := by simpa using c0
            obtain ⟨x1, hx1, mx1⟩ := mem_at ma (i := (ia + k)) (by omega)
            refine wpS_bind (wpS_elem hx1 ?_)
            refine wpS_bind (wpS_gallop hL hk2 mx1 (fun i hi => mem_at mb (by omega)) (sb.inn (by omega)) (by omega) fun k' j1 j2 j3 => ?_)
            dsimp only
            have mB2 := mB.tB (k := k') (by omega) sb (fun z hz y' hy' => by
              obtain ⟨j, hj, e⟩ := mem_win hz
              have := bey_t.mp (j2 j hj)
              rw [R_at e] at this
              have := sa.rest hx1 hy'
              omega)
            refine wpS_ite (fun k0' => ?_) (fun _ => ?_)
            · refine wpS_ite (fun c2 => ?_) (fun _ => ?_)
              · exact wpS_pure ⟨gs2, .inl ⟨_, _, rfl, mB2.done sa sb (.inr (by simpa using c2))⟩⟩
              rename_i c2
              have c2' : ¬ ib + 1 + k' = b.size := by simpa using c2
              have lib2 : ib + 1 + k' < b.size := by have := mB2.lb; omega
              obtain ⟨x2, hx2, mx2⟩ := mem_at ma (i := (ia + k)) (by omega)
              refine wpS_bind (wpS_elem hx2 ?_)
              rw [hx1] at hx2
              cases hx2
              have mC := mB2.pA sa sb hx1 (fun y' hy' => by rw [← R_at (ρ := ρ) hy']; exact bey_tf.mp (j3 k' (Nat.le_refl _) (by omega)))
              refine wpS_ite (fun c1 => ?_) (fun _ => ?_)
              · have c1' : (ia + k) + 1 + 1 = a.size := by simpa using c1
                exact wpS_pure ⟨gs2, .inl ⟨_, _, rfl, mC.lastA sa sb (fun x hx => hlast x (by rw [show a.size - 1 = (ia + k) + 1 by omega]; exact hx))⟩⟩
              rename_i c1
              have c1' : ¬ (ia + k) + 1 + 1 = a.size := by simpa using c1
              have lia := mC.la
              refine wpS_ite (fun _ => ?_) (fun _ => ?_)
              · exact wpS_pure ⟨gs2, .inr ⟨_, _, _, _, _, _, rfl, mC, by omega, by have := lib2; omega, by omega⟩⟩
              · exact wpS_pure ⟨gs2, _, _, _, _, _, _, rfl, mC, by omega, by have := lib2; omega, by omega⟩
            · rename_i k0'
              have k0'' : k' = 0 := by omega
              subst k0''
              have lib2 : ib + 1 < b.size := by omega
              obtain ⟨x2, hx2, mx2⟩ := mem_at ma (i := (ia + k)) (by omega)
              refine wpS_bind (wpS_elem hx2 ?_)
              rw [hx1] at hx2
              cases hx2
              have mC := mB.pA sa sb hx1 (fun y' hy' => by rw [← R_at (ρ := ρ) hy']; exact bey_tf.mp (j3 0 (Nat.le_refl _) (by omega)))
              refine wpS_ite (fun c1 => ?_) (fun _ => ?_)
              · have c1' : (ia + k) + 1 + 1 = a.size := by simpa using c1
                exact wpS_pure ⟨gs2, .inl ⟨_, _, rfl, mC.lastA sa sb (fun x hx => hlast x (by rw [show a.size - 1 = (ia + k) + 1 by omega]; exact hx))⟩⟩
              rename_i c1
              have c1' : ¬ (ia + k) + 1 + 1 = a.size := by simpa using c1
              have lia := mC.la
              refine wpS_ite (fun _ => ?_) (fun _ => ?_)
              · exact wpS_pure ⟨gs2, .inr ⟨_, _, _, _, _, _, rfl, mC, by omega, by have := lib2; omega, by omega⟩⟩
              · exact wpS_pure ⟨gs2, _, _, _, _, _, _, rfl, mC, by omega, by have := lib2; omega, by omega⟩
          · rename_i kp
            have kp' : k = 0 := by omega
            subst kp'
            have hia : ia + 1 < a.size := lA
            obtain ⟨y1, hy1, my1⟩ := mem_at mb (i := ib) (by omega)
            refine wpS_bind (wpS_elem hy1 ?_)
            rw [hy] at hy1
            cases hy1
            have mB := m.pB sa sb hy hgt
            refine wpS_ite (fun c0 => ?_) (fun _ => ?_)
            · exact wpS_pure ⟨gs2, .inl ⟨_, _, rfl, mB.done sa sb (.inr (by simpa using c0))⟩⟩
            rename_i c0
            have c0' : ¬ ib + 1 = b.size := by simpa using c0
            obtain ⟨x1, hx1, mx1⟩ := mem_at ma (i := ia) (by omega)
            refine wpS_bind (wpS_elem hx1 ?_)
            refine wpS_bind (wpS_gallop hL hk2 mx1 (fun i hi => mem_at mb (by omega)) (sb.inn (by omega)) (by omega) fun k' j1 j2 j3 => ?_)
            dsimp only
            have mB2 := mB.tB (k := k') (by omega) sb (fun z hz y' hy' => by
              obtain ⟨j, hj, e⟩ := mem_win hz
              have := bey_t.mp (j2 j hj)
              rw [R_at e] at this
              have := sa.rest hx1 hy'
              omega)
            refine wpS_ite (fun k0' => ?_) (fun _ => ?_)
            · refine wpS_ite (fun c2 => ?_) (fun _ => ?_)
              · exact wpS_pure ⟨gs2, .inl ⟨_, _, rfl, mB2.done sa sb (.inr (by simpa using c2))⟩⟩
              rename_i c2
              have c2' : ¬ ib + 1 + k' = b.size := by simpa using c2
              have lib2 : ib + 1 + k' < b.size := by have := mB2.lb; omega
              obtain ⟨x2, hx2, mx2⟩ := mem_at ma (i := ia) (by omega)
              refine wpS_bind (wpS_elem hx2 ?_)
              rw [hx1] at hx2
              cases hx2
              have mC := mB2.pA sa sb hx1 (fun y' hy' => by rw [← R_at (ρ := ρ) hy']; exact bey_tf.mp (j3 k' (Nat.le_refl _) (by omega)))
              refine wpS_ite (fun c1 => ?_) (fun _ => ?_)
              · have c1' : ia + 1 + 1 = a.size := by simpa using c1
                exact wpS_pure ⟨gs2, .inl ⟨_, _, rfl, mC.lastA sa sb (fun x hx => hlast x (by rw [show a.size - 1 = ia + 1 by omega]; exact hx))⟩⟩
              rename_i c1
              have c1' : ¬ ia + 1 + 1 = a.size := by simpa using c1
              have lia := mC.la
              refine wpS_ite (fun _ => ?_) (fun _ => ?_)
              · exact wpS_pure ⟨gs2, .inr ⟨_, _, _, _, _, _, rfl, mC, by omega, by have := lib2; omega, by omega⟩⟩
              · exact wpS_pure ⟨gs2, _, _, _, _, _, _, rfl, mC, by omega, by have := lib2; omega, by omega⟩
            · rename_i k0'
              have k0'' : k' = 0 := by omega
              subst k0''
              have lib2 : ib + 1 < b.size := by omega
              obtain ⟨x2, hx2, mx2⟩ := mem_at ma (i := ia) (by omega)
              refine wpS_bind (wpS_elem hx2 ?_)
              rw [hx1] at hx2
              cases hx2
              have mC := mB.pA sa sb hx1 (fun y' hy' => by rw [← R_at (ρ := ρ) hy']; exact bey_tf.mp (j3 0 (Nat.le_refl _) (by omega)))
              refine wpS_ite (fun c1 => ?_) (fun _ => ?_)
              · have c1' : ia + 1 + 1 = a.size := by simpa using c1
                exact wpS_pure ⟨gs2, .inl ⟨_, _, rfl, mC.lastA sa sb (fun x hx => hlast x (by rw [show a.size - 1 = ia + 1 by omega]; exact hx))⟩⟩
              rename_i c1
              have c1' : ¬ ia + 1 + 1 = a.size := by simpa using c1
              have lia := mC.la
              refine wpS_ite (fun _ => ?_) (fun _ => ?_)
              · exact wpS_pure ⟨gs2, .inr ⟨_, _, _, _, _, _, rfl, mC, by omega, by have := lib2; omega, by omega⟩⟩
              · exact wpS_pure ⟨gs2, _, _, _, _, _, _, rfl, mC, by omega, by have := lib2; omega, by omega⟩
end
end L2

set_option Elab.async false
set_option linter.all false
set_option maxRecDepth 100000
set_option maxHeartbeats 4000000
namespace L2
open PySem PySem.Spec PyProof.Rows
section
variable {ρ : Keyed → Int} {a b out : Array Keyed} {na nb k : Nat}
/-- how far a merge from the right has come -/
structure MH (ρ : Keyed → Int) (a b out : Array Keyed) (na nb : Nat) : Prop where
  la : na ≤ a.size
  lb : nb ≤ b.size
  pm : out.toList.Perm (a.toList.drop na ++ b.toList.drop nb)
  so : Ls ρ out.toList.reverse
  le : ∀ y ∈ out.toList, ∀ x ∈ a.toList.take na ++ b.toList.take nb, ρ x ≤ ρ y
theorem win_drop (l : List Keyed) {i j : Nat} (h : i ≤ j) : l.drop i = (l.drop i).take (j - i) ++ l.drop j := by
  have := (List.take_append_drop (j - i) (l.drop i)).symm
  rw [List.drop_drop, show i + (j - i) = j by omega] at this
  exact this
theorem win_take (l : List Keyed) {i j : Nat} (h : i ≤ j) : l.take j = l.take i ++ (l.drop i).take (j - i) := by
  rw [← List.take_add, show i + (j - i) = j by omega]
theorem MH.tA (h : MH ρ a b out na nb) (hk : k ≤ na) (sa : Ls ρ a.toList) (hc : ∀ x ∈ (a.toList.drop k).take (na - k), ∀ y ∈ b.toList.take nb, ρ y ≤ ρ x) : MH ρ a b (out ++ (a.extract k na).reverse) k nb := by
  have e : (out ++ (a.extract k na).reverse).toList = out.toList ++ ((a.toList.drop k).take (na - k)).reverse := by rw [Array.toList_append, Array.toList_reverse, ext_l]
  have e1 := win_take a.toList hk
  have e2 := win_drop a.toList hk
  refine ⟨Nat.le_trans hk h.la, h.lb, ?_, ?_, ?_⟩
  · rw [e]
    refine (h.pm.append (List.reverse_perm _)).trans ?_
    conv => rhs; rw [e2]
    rw [List.append_assoc (List.take (na - k) (List.drop k a.toList))]
    exact List.perm_append_comm
  · rw [e, List.reverse_append, List.reverse_reverse]
    refine (sa.sub ((List.take_sublist _ _).trans (List.drop_sublist _ _))).app h.so fun x hx y hy => h.le y (by simpa using hy) x (List.mem_append_left _ ?_)
    rw [e1]; exact List.mem_append_right _ hx
  · rw [e]
    intro y hy x hx
    rcases List.mem_append.mp hy with q | q
    · refine h.le y q x ?_
      rw [e1]
      rcases List.mem_append.mp hx with z | z
      · exact List.mem_append_left _ (List.mem_append_left _ z)
      · exact List.mem_append_right _ z
    · rw [List.mem_reverse] at q
      rcases List.mem_append.mp hx with z | z
      · exact sa.split k x z y (List.mem_of_mem_take q)
      · exact hc y q x z
theorem MH.tB (h : MH ρ a b out na nb) (hk : k ≤ nb) (sb : Ls ρ b.toList) (hc : ∀ x ∈ (b.toList.drop k).take (nb - k), ∀ y ∈ a.toList.take na, ρ y ≤ ρ x) : MH ρ a b (out ++ (b.extract k nb).reverse) na k := by
  have e : (out ++ (b.extract k nb).reverse).toList = out.toList ++ ((b.toList.drop k).take (nb - k)).reverse := by rw [Array.toList_append, Array.toList_reverse, ext_l]
  have e1 := win_take b.toList hk
  have e2 := win_drop b.toList hk
  refine ⟨h.la, Nat.le_trans hk h.lb, ?_, ?_, ?_⟩
  · rw [e]
    refine (h.pm.append (List.reverse_perm _)).trans ?_
    conv => rhs; rw [e2]
    rw [List.append_assoc]
    exact List.Perm.append_left _ List.perm_append_comm
  · rw [e, List.reverse_append, List.reverse_reverse]
    refine (sb.sub ((List.take_sublist _ _).trans (List.drop_sublist _ _))).app h.so fun x hx y hy => h.le y (by simpa using hy) x (List.mem_append_right _ ?_)
    rw [e1]; exact List.mem_append_right _ hx
  · rw [e]
    intro y hy x hx
    rcases List.mem_append.mp hy with q | q
    · refine h.le y q x ?_
      rw [e1]
      rcases List.mem_append.mp hx with z | z
      · exact List.mem_append_left _ z
      · exact List.mem_append_right _ (List.mem_append_left _ z)
    · rw [List.mem_reverse] at q
      rcases List.mem_append.mp hx with z | z
      · exact hc y q x z
      · exact sb.split k x z y (List.mem_of_mem_take q)
theorem push_rev {xs : Array Keyed} {i : Nat} {x : Keyed} (hx : xs[i]? = some x) : out.push x = out ++ (xs.extract i (i + 1)).reverse := by
  apply Array.ext'
  obtain ⟨hi, e⟩ := Array.getElem?_eq_some_iff.mp hx
  rw [Array.toList_push, Array.toList_append, Array.toList_reverse, ext_l, Nat.add_sub_cancel_left, List.drop_eq_getElem_cons (by simpa using hi), List.take_succ_cons, List.take_zero]
  simp [e]
theorem Ls.upto {xs : Array Keyed} (h : Ls ρ xs.toList) {i : Nat} {x : Keyed} (hx : xs[i]? = some x) {y : Keyed} (hy : y ∈ xs.toList.take (i + 1)) : ρ y ≤ ρ x := by
  obtain ⟨hi, e⟩ := Array.getElem?_eq_some_iff.mp hx
  rw [List.take_add_one, List.getElem?_eq_getElem (by simpa using hi)] at hy
  rcases List.mem_append.mp hy with q | q
  · refine h.split i y q x ?_
    rw [List.drop_eq_getElem_cons (by simpa using hi)]
    simp [e]
  · have : y = x := by simpa [e] using q
    rw [this]; exact Int.le_refl _
theorem MH.pA (h : MH ρ a b out (na + 1) nb) (sa : Ls ρ a.toList) (sb : Ls ρ b.toList) {x : Keyed} (hx : a[na]? = some x) (hc : ∀ j y, nb = j + 1 → b[j]? = some y → ρ y ≤ ρ x) : MH ρ a b (out.push x) na nb := by
  rw [push_rev hx]
  refine h.tA (Nat.le_succ _) sa fun z hz y hy => ?_
  rw [Nat.add_sub_cancel_left] at hz
  rw [one_take hx hz]
  cases nb with
  | zero => simp at hy
  | succ j =>
    have hj : j < b.size := by have := h.lb; omega
    exact Int.le_trans (sb.upto (Array.getElem?_eq_getElem hj) hy) (hc j _ rfl (Array.getElem?_eq_getElem hj))
theorem MH.pB (h : MH ρ a b out na (nb + 1)) (sa : Ls ρ a.toList) (sb : Ls ρ b.toList) {x : Keyed} (hx : b[nb]? = some x) (hc : ∀ j y, na = j + 1 → a[j]? = some y → ρ y ≤ ρ x) : MH ρ a b (out.push x) na nb := by
  rw [push_rev hx]
  refine h.tB (Nat.le_succ _) sb fun z hz y hy => ?_
  rw [Nat.add_sub_cancel_left] at hz
  rw [one_take hx hz]
  cases na with
  | zero => simp at hy
  | succ j =>
    have hj : j < a.size := by have := h.la; omega
    exact Int.le_trans (sa.upto (Array.getElem?_eq_getElem hj) hy) (hc j _ rfl (Array.getElem?_eq_getElem hj))
theorem MH.done (h : MH ρ a b out na nb) (sa : Ls ρ a.toList) (sb : Ls ρ b.toList) (hd : na = 0 ∨ nb = 0) : RS ρ a b (a.extract 0 na ++ b.extract 0 nb ++ out.reverse) := by
  have e : (a.extract 0 na ++ b.extract 0 nb ++ out.reverse).toList = a.toList.take na ++ b.toList.take nb ++ out.toList.reverse := by
    rw [Array.toList_append, Array.toList_append, ext_l, ext_l, Array.toList_reverse, List.drop_zero, List.drop_zero, Nat.sub_zero, Nat.sub_zero]
  refine ⟨?_, ?_⟩
  · rw [e]
    refine (List.Perm.append_left _ ((List.reverse_perm _).trans h.pm)).trans ?_
    rw [← List.append_assoc]
    refine (perm_four _ _ _ _).trans ?_
    rw [List.take_append_drop, List.take_append_drop]
  · rw [e]
    refine Ls.app ?_ h.so fun x hx y hy => h.le y (by simpa using hy) x hx
    refine (sa.sub (List.take_sublist _ _)).app (sb.sub (List.take_sublist _ _)) fun x hx y hy => ?_
    rcases hd with q | q
    · subst q; simp at hx
    · subst q; simp at hy
theorem MH.firstB (h : MH ρ a b out na nb) (sa : Ls ρ a.toList) (sb : Ls ρ b.toList) (hg : ∀ x ∈ b.toList.take nb, ∀ y ∈ a.toList, ρ x ≤ ρ y) : RS ρ a b (b.extract 0 nb ++ a.extract 0 na ++ out.reverse) := by
  have e : (b.extract 0 nb ++ a.extract 0 na ++ out.reverse).toList = b.toList.take nb ++ a.toList.take na ++ out.toList.reverse := by
    rw [Array.toList_append, Array.toList_append, ext_l, ext_l, Array.toList_reverse, List.drop_zero, List.drop_zero, Nat.sub_zero, Nat.sub_zero]
  refine ⟨?_, ?_⟩
  · rw [e]
    refine (List.Perm.append List.perm_append_comm ((List.reverse_perm _).trans h.pm)).trans ?_
    rw [← List.append_assoc]
    refine (perm_four _ _ _ _).trans ?_
    rw [List.take_append_drop, List.take_append_drop]
  · rw [e]
    refine Ls.app ?_ h.so fun x hx y hy => h.le y (by simpa using hy) x ?_
    · exact (sb.sub (List.take_sublist _ _)).app (sa.sub (List.take_sublist _ _)) fun x hx y hy => hg x hx y (List.mem_of_mem_take hy)
    · rcases List.mem_append.mp hx with z | z
      · exact List.mem_append_right _ z
      · exact List.mem_append_left _ z
end
end L2

set_option Elab.async false
set_option linter.all false
set_option maxRecDepth 100000
set_option maxHeartbeats 4000000
namespace L2
open PySem PySem.Spec PyProof.Rows
def mergeHi' : Array Keyed → Array Keyed → StateT SortSt Sem (Array Keyed) := sortPriv% PySem.Builtin.mergeHi
local macro_rules | `(tactic| walk_at "mergeHi") => do
  let n := Lean.mkIdent ((Lean.Name.num `_private.PySem.Builtin.List.W1All 0) ++ `PySem.Builtin.mergeHi)
  `(tactic| (delta mergeHi'; delta $n:ident; dsimp only))
section
variable {prog : Program} {w : World} {A : Around} {E : Value → Shared → Prop} {s : Shared} {a₀ : Array Keyed} {ρ : Keyed → Int} {k0 : SortKind} {a b : Array Keyed}
theorem MH.pA' {out : Array Keyed} {na nb : Nat} (h : MH ρ a b out na nb) (h1 : 1 ≤ na) (sa : Ls ρ a.toList) (sb : Ls ρ b.toList) {x : Keyed} (hx : a[na - 1]? = some x) (hc : ∀ y, 1 ≤ nb → b[nb - 1]? = some y → ρ y ≤ ρ x) : MH ρ a b (out.push x) (na - 1) nb := by
  obtain ⟨m, rfl⟩ : ∃ m, na = m + 1 := ⟨na - 1, by omega⟩
  exact MH.pA h sa sb hx fun j y e hy => hc y (by omega) (by rw [e]; exact hy)
theorem MH.pB' {out : Array Keyed} {na nb : Nat} (h : MH ρ a b out na nb) (h1 : 1 ≤ nb) (sa : Ls ρ a.toList) (sb : Ls ρ b.toList) {x : Keyed} (hx : b[nb - 1]? = some x) (hc : ∀ y, 1 ≤ na → a[na - 1]? = some y → ρ y ≤ ρ x) : MH ρ a b (out.push x) na (nb - 1) := by
  obtain ⟨m, rfl⟩ : ∃ m, nb = m + 1 := ⟨nb - 1, by omega⟩
  exact MH.pB h sa sb hx fun j y e hy => hc y (by omega) (by rw [e]; exact hy)
theorem Ls.upto' {xs : Array Keyed} (h : Ls ρ xs.toList) {n : Nat} (h1 : 1 ≤ n) {x : Keyed} (hx : xs[n - 1]? = some x) {y : Keyed} (hy : y ∈ xs.toList.take n) : ρ y ≤ ρ x := by
  obtain ⟨m, rfl⟩ : ∃ m, n = m + 1 := ⟨n - 1, by omega⟩
  exact h.upto hx hy
theorem wpS_mergeHi (hL : LtBy prog w A s k0 ρ a₀) {st : SortSt} (hk : kindOf st = k0) {Q : Array Keyed → SortSt → Prop} (sa : Ls ρ a.toList) (sb : Ls ρ b.toList) (ma : ∀ x ∈ a.toList, x ∈ a₀.toList) (mb : ∀ x ∈ b.toList, x ∈ a₀.toList) (na : 1 ≤ a.size) (nb : 1 ≤ b.size)
    (hfirst : ∀ x ∈ b.toList.take 1, ∀ y ∈ a.toList, ρ x ≤ ρ y) (hlast : ∀ x, a[a.size - 1]? = some x → ∀ y ∈ b.toList, ρ y ≤ ρ x) (h : ∀ r st', GS st st' → RS ρ a b r → Q r st') : wpS (model prog w) A E s (mergeHi' a b) Q st := by
  walk_at "mergeHi"
  refine wpS_bind (wpS_lift (wpAny_rule ⟨rfl, ?_⟩))
  obtain ⟨x0, hx0, mx0⟩ := mem_at ma (i := a.size - 1) (by omega)
  refine wpS_bind (wpS_elem hx0 ?_)
  have mI : MH ρ a b #[] a.size b.size := ⟨by omega, by omega, by simp, by simp [Ls], by simp⟩
  have m1 : MH ρ a b #[x0] (a.size - 1) b.size := mI.pA' na sa sb hx0 (fun y _ hy => hlast x0 hx0 y (at_mem hy))
  refine wpS_ite (fun g => ?_) (fun g1 => ?_)
  · exact wpS_pure (h _ _ (GS.refl _) (m1.done sa sb (.inl (by simpa using g))))
  have g1' : ¬ a.size - 1 = 0 := by simpa using g1
  refine wpS_ite (fun g => ?_) (fun g2 => ?_)
  · have g' : b.size = 1 := by simpa using g
    exact wpS_pure (h _ _ (GS.refl _) (m1.firstB sa sb (by rw [g']; exact hfirst)))
  have g2' : ¬ b.size = 1 := by simpa using g2
  refine wpS_bind (wpS_get ?_)
  refine wpS_bind (wpS_mono (wpS_forRange (I := fun x c st' => GS st st' ∧ ∃ na nb out g, c = (none, na, nb, out, g) ∧ MH ρ a b out na nb ∧ 1 ≤ na ∧ 2 ≤ nb ∧ x + 1 + (na + nb) ≤ a.size + b.size)
    (Q := fun c st' => GS st st' ∧ ∃ r rest, c = (some r, rest) ∧ RS ρ a b r) ?step ?fin ⟨GS.refl _, _, _, _, _, rfl, m1, by omega, by omega, by omega⟩) ?post)
  case fin =>
    rintro c st' ⟨gs, na, nb, out, g, rfl, m, q1, q2, q3⟩
    omega
  case post =>
    rintro c st' ⟨gs, r, rest, rfl, hr⟩
    exact wpS_pure (h _ _ gs hr)
  case step =>
    rintro x c st' _ hx ⟨gs, na, nb, out, g, rfl, m, lA, lB, hp⟩
    dsimp only
    refine wpS_bind (wpS_mono (wpS_forRange (I := fun y c st'' => st'' = st' ∧ ∃ na' nb' out' ac bc, c = (none, na', nb', out', ac, bc) ∧ MH ρ a b out' na' nb' ∧ 1 ≤ na' ∧ 2 ≤ nb' ∧ y + (na' + nb') ≤ na + nb)
      (Q := fun c st'' => st'' = st' ∧ ((∃ r rest, c = (some r, rest) ∧ RS ρ a b r) ∨ ∃ na' nb' out' ac bc, c = (none, na', nb', out', ac, bc) ∧ MH ρ a b out' na' nb' ∧ 1 ≤ na' ∧ 2 ≤ nb' ∧ na' + nb' + 1 ≤ na + nb)) ?step1 ?fin1 ⟨rfl, _, _, _, _, _, rfl, m, lA, lB, by omega⟩) ?post1)
    case fin1 =>
      rintro c st'' ⟨rfl, na', nb', out', ac, bc, rfl, m', q1, q2, q3⟩
      omega
    case step1 =>
      rintro y c st'' _ hy ⟨rfl, na', nb', out', ac, bc, rfl, m', lA', lB', hp'⟩
      dsimp only
      have hk' : kindOf st'' = k0 := gs.kd.trans hk
      have qa := m'.la
      have qb := m'.lb
      obtain ⟨yb, hyb, myb⟩ := mem_at mb (i := nb' - 1) (by omega)
      obtain ⟨xa, hxa, mxa⟩ := mem_at ma (i := na' - 1) (by omega)
      refine wpS_bind (wpS_elem hyb ?_)
      refine wpS_bind (wpS_elem hxa ?_)
      refine wpS_bind (hL hk' myb mxa ?_)
      by_cases hlt : ρ yb < ρ xa
      · simp only [hlt, decide_true, if_true]
        refine wpS_bind (wpS_elem hxa ?_)
        have mA := m'.pA' lA' sa sb hxa (fun x _ hx => by rw [hyb] at hx; cases hx; omega)
        refine wpS_ite (fun c0 => ?_) (fun c0 => ?_)
        · exact wpS_pure ⟨rfl, .inl ⟨_, _, rfl, mA.done sa sb (.inl (by simpa using c0))⟩⟩
        have c0' : ¬ na' - 1 = 0 := by simpa using c0
        refine wpS_ite (fun _ => ?_) (fun _ => ?_)
        · exact wpS_pure ⟨rfl, .inr ⟨_, _, _, _, _, rfl, mA, by omega, lB', by omega⟩⟩
        · exact wpS_pure ⟨rfl, _, _, _, _, _, rfl, mA, by omega, lB', by omega⟩
      · simp only [hlt, decide_false, Bool.false_eq_true, if_false]
        refine wpS_bind (wpS_elem hyb ?_)
        have mB := m'.pB' (by omega) sa sb hyb (fun x _ hx => by rw [hxa] at hx; cases hx; omega)
        refine wpS_ite (fun c0 => ?_) (fun c0 => ?_)
        · have c0' : nb' - 1 = 1 := by simpa using c0
          exact wpS_pure ⟨rfl, .inl ⟨_, _, rfl, mB.firstB sa sb (by rw [c0']; exact hfirst)⟩⟩
        have c0' : ¬ nb' - 1 = 1 := by simpa using c0
        refine wpS_ite (fun _ => ?_) (fun _ => ?_)
        · exact wpS_pure ⟨rfl, .inr ⟨_, _, _, _, _, rfl, mB, lA', by omega, by omega⟩⟩
        · exact wpS_pure ⟨rfl, _, _, _, _, _, rfl, mB, lA', by omega, by omega⟩
    case post1 =>
      rintro c st'' ⟨rfl, ⟨r, rest, rfl, hr⟩ | ⟨na', nb', out', ac, bc, rfl, m', lA', lB', hp'⟩⟩
      · dsimp only
        exact wpS_pure ⟨gs, r, _, rfl, hr⟩
      dsimp only
      refine wpS_bind (wpS_lift (wpAny_rule ⟨rfl, ?_⟩))
      refine wpS_bind (wpS_mono (wpS_forRange (I := fun z c st3 => GS st st3 ∧ ∃ na nb out g ac bc, c = (none, na, nb, out, g, ac, bc) ∧ MH ρ a b out na nb ∧ 1 ≤ na ∧ 2 ≤ nb ∧ z + (na + nb) ≤ na' + nb')
        (Q := fun c st3 => GS st st3 ∧ ((∃ r rest, c = (some r, rest) ∧ RS ρ a b r) ∨ ∃ na nb out g ac bc, c = (none, na, nb, out, g, ac, bc) ∧ MH ρ a b out na nb ∧ 1 ≤ na ∧ 2 ≤ nb ∧ na + nb ≤ na' + nb')) ?step2 ?fin2 ⟨gs, _, _, _, _, _, _, rfl, m', lA', lB', by omega⟩) ?post2)
      case fin2 =>
        have qa := m'.la
        have qb := m'.lb
        rintro c st3 ⟨gs, na, nb, out, g, ac, bc, rfl, m, q1, q2, q3⟩
        omega
      case post2 =>
        rintro c st3 ⟨gs, ⟨r, rest, rfl, hr⟩ | ⟨na, nb, out, g, ac, bc, rfl, m, lA, lB, hp⟩⟩
        · dsimp only
          exact wpS_pure ⟨gs, r, _, rfl, hr⟩
        · dsimp only
          refine wpS_bind (wpS_setMin fun st4 gs4 => ?_)
          exact wpS_pure ⟨gs.trans gs4, _, _, _, _, rfl, m, lA, lB, by omega⟩
      case step2 =>
        clear m lA lB hp m' lA' lB'
        rintro z c st' _ hz ⟨gs, na, nb, out, g, ac, bc, rfl, m, lA, lB, hp⟩
        dsimp only
        refine wpS_ite (fun _ => ?_) (fun _ => ?_)
        · refine wpS_bind (wpS_setMin fun st3 gs3 => ?_)
          have gs2 := gs.trans gs3
          have hk2 : kindOf st3 = k0 := gs2.kd.trans hk
          have qa := m.la
          have qb := m.lb
          obtain ⟨y, hy, my⟩ := mem_at mb (i := nb - 1) (by omega)
          refine wpS_bind (wpS_elem hy ?_)
          refine wpS_bind (wpS_gallop (base := 0) hL hk2 my (fun i hi => by rw [Nat.zero_add]; exact mem_at ma (by omega)) (sa.inn (by omega)) (by omega) fun k i1 i2 i3 => ?_)
          simp only [Nat.zero_add] at i2 i3
          dsimp only
          have mA := m.tA (k := k) i1 sa (fun z hz y' hy' => by
            obtain ⟨j, hj, e⟩ := mem_win hz
            have := bey_ff.mp (i3 (k + j) (by omega) (by omega))
            rw [R_at e] at this
            have := sb.upto' (by omega) hy hy'
            omega)
          refine wpS_ite (fun kp => ?_) (fun kp => ?_)
          · refine wpS_ite (fun c3 => ?_) (fun c3 => ?_)
            · exact wpS_pure ⟨gs2, .inl ⟨_, _, rfl, mA.done sa sb (.inl (by simpa using c3))⟩⟩
            have c3' : ¬ k = 0 := by simpa using c3
            have hna : 1 ≤ k := by omega
            have hgt : ∀ x, a[k - 1]? = some x → ρ x ≤ ρ y := fun x hx => by
              have := bey_f.mp (i2 (k - 1) (by omega))
              rw [R_at hx] at this
              exact this
            obtain ⟨y1, hy1, my1⟩ := mem_at mb (i := nb - 1) (by omega)
            refine wpS_bind (wpS_elem hy1 ?_)
            rw [hy] at hy1
            cases hy1
            have mB := mA.pB' (by omega) sa sb hy (fun x _ hx => hgt x hx)
            refine wpS_ite (fun c0 => ?_) (fun c0 => ?_)
            · have c0' : nb - 1 = 1 := by simpa using c0
              exact wpS_pure ⟨gs2, .inl ⟨_, _, rfl, mB.firstB sa sb (by rw [c0']; exact hfirst)⟩⟩
            have c0' : ¬ nb - 1 = 1 := by simpa using c0
            obtain ⟨x1, hx1, mx1⟩ := mem_at ma (i := k - 1) (by omega)
            refine wpS_bind (wpS_elem hx1 ?_)
            refine wpS_bind (wpS_gallop (base := 0) hL hk2 mx1 (fun i hi => by rw [Nat.zero_add]; exact mem_at mb (by omega)) (sb.inn (by omega)) (by omega) fun k' j1 j2 j3 => ?_)
            simp only [Nat.zero_add] at j2 j3
            dsimp only
            have mB2 := mB.tB (k := k') (by omega) sb (fun z hz y' hy' => by
              obtain ⟨j, hj, e⟩ := mem_win hz
              have := bey_tf.mp (j3 (k' + j) (by omega) (by omega))
              rw [R_at e] at this
              have := sa.upto' hna hx1 hy'
              omega)
            refine wpS_ite (fun k0' => ?_) (fun k0' => ?_)
            · refine wpS_ite (fun c2 => ?_) (fun c2 => ?_)
              · have c2' : k' = 1 := by simpa using c2
                exact wpS_pure ⟨gs2, .inl ⟨_, _, rfl, mB2.firstB sa sb (by rw [c2']; exact hfirst)⟩⟩
              have c2' : ¬ k' = 1 := by simpa using c2
              refine wpS_ite (fun c5 => ?_) (fun c5 => ?_)
              · exact wpS_pure ⟨gs2, .inl ⟨_, _, rfl, mB2.done sa sb (.inr (by simpa using c5))⟩⟩
              have c5' : ¬ k' = 0 := by simpa using c5
              have lib2 : 2 ≤ k' := by omega
              have hlt2 : ∀ y', b[k' - 1]? = some y' → ρ y' ≤ ρ x1 := fun y' hy' => by
                have := bey_t.mp (j2 (k' - 1) (by omega))
                rw [R_at hy'] at this
                omega
              obtain ⟨x2, hx2, mx2⟩ := mem_at ma (i := k - 1) (by omega)
              refine wpS_bind (wpS_elem hx2 ?_)
              rw [hx1] at hx2
              cases hx2
              have mC := mB2.pA' hna sa sb hx1 (fun y' h1' hy' => hlt2 y' hy')
              refine wpS_ite (fun c1 => ?_) (fun c1 => ?_)
              · exact wpS_pure ⟨gs2, .inl ⟨_, _, rfl, mC.done sa sb (.inl (by simpa using c1))⟩⟩
              have c1' : ¬ k - 1 = 0 := by simpa using c1
              refine wpS_ite (fun _ => ?_) (fun _ => ?_)
              · exact wpS_pure ⟨gs2, .inr ⟨_, _, _, _, _, _, rfl, mC, by omega, by have := lib2; omega, by omega⟩⟩
              · exact wpS_pure ⟨gs2, _, _, _, _, _, _, rfl, mC, by omega, by have := lib2; omega, by omega⟩
            · have k0'' : k' = nb - 1 := by omega
              have lib2 : 2 ≤ nb - 1 := by omega
              have hlt2 : ∀ y', b[nb - 1 - 1]? = some y' → ρ y' ≤ ρ x1 := fun y' hy' => by
                have := bey_t.mp (j2 (nb - 1 - 1) (by omega))
                rw [R_at hy'] at this
                omega
              obtain ⟨x2, hx2, mx2⟩ := mem_at ma (i := k - 1) (by omega)
              refine wpS_bind (wpS_elem hx2 ?_)
              rw [hx1] at hx2
              cases hx2
              have mC := mB.pA' hna sa sb hx1 (fun y' h1' hy' => hlt2 y' hy')
              refine wpS_ite (fun c1 => ?_) (fun c1 => ?_)
              · exact wpS_pure ⟨gs2, .inl ⟨_, _, rfl, mC.done sa sb (.inl (by simpa using c1))⟩⟩
              have c1' : ¬ k - 1 = 0 := by simpa using c1
              refine wpS_ite (fun _ => ?_) (fun _ => ?_)
              · exact wpS_pure ⟨gs2, .inr ⟨_, _, _, _, _, _, rfl, mC, by omega, by have := lib2; omega, by omega⟩⟩
              · exact wpS_pure ⟨gs2, _, _, _, _, _, _, rfl, mC, by omega, by have := lib2; omega, by omega⟩
          · have kp' : k = na := by omega
            have hna : 1 ≤ na := lA
            have hgt : ∀ x, a[na - 1]? = some x → ρ x ≤ ρ y := fun x hx => by
              have := bey_f.mp (i2 (na - 1) (by omega))
              rw [R_at hx] at this
              exact this
            obtain ⟨y1, hy1, my1⟩ := mem_at mb (i := nb - 1) (by omega)
            refine wpS_bind (wpS_elem hy1 ?_)
            rw [hy] at hy1
            cases hy1
            have mB := m.pB' (by omega) sa sb hy (fun x _ hx => hgt x hx)
            refine wpS_ite (fun c0 => ?_) (fun c0 => ?_)
            · have c0' : nb - 1 = 1 := by simpa using c0
              exact wpS_pure ⟨gs2, .inl ⟨_, _, rfl, mB.firstB sa sb (by rw [c0']; exact hfirst)⟩⟩
            have c0' : ¬ nb - 1 = 1 := by simpa using c0
            obtain ⟨x1, hx1, mx1⟩ := mem_at ma (i := na - 1) (by omega)
            refine wpS_bind (wpS_elem hx1 ?_)
            refine wpS_bind (wpS_gallop (base := 0) hL hk2 mx1 (fun i hi => by rw [Nat.zero_add]; exact mem_at mb (by omega)) (sb.inn (by omega)) (by omega) fun k' j1 j2 j3 => ?_)
            simp only [Nat.zero_add] at j2 j3
            dsimp only
            have mB2 := mB.tB (k := k') (by omega) sb (fun z hz y' hy' => by
              obtain ⟨j, hj, e⟩ := mem_win hz
              have := bey_tf.mp (j3 (k' + j) (by omega) (by omega))
              rw [R_at e] at this
              have := sa.upto' hna hx1 hy'
              omega)
            refine wpS_ite (fun k0' => ?_) (fun k0' => ?_)
            · refine wpS_ite (fun c2 => ?_) (fun c2 => ?_)
              · have c2' : k' = 1 := by simpa using c2
                exact wpS_pure ⟨gs2, .inl ⟨_, _, rfl, mB2.firstB sa sb (by rw [c2']; exact hfirst)⟩⟩
              have c2' : ¬ k' = 1 := by simpa using c2
              refine wpS_ite (fun c5 => ?_) (fun c5 => ?_)
              · exact wpS_pure ⟨gs2, .inl ⟨_, _, rfl, mB2.done sa sb (.inr (by simpa using c5))⟩⟩
              have c5' : ¬ k' = 0 := by simpa using c5
              have lib2 : 2 ≤ k' := by omega
              have hlt2 : ∀ y', b[k' - 1]? = some y' → ρ y' ≤ ρ x1 := fun y' hy' => by
                have := bey_t.mp (j2 (k' - 1) (by omega))
                rw [R_at hy'] at this
                omega
              obtain ⟨x2, hx2, mx2⟩ := mem_at ma (i := na - 1) (by omega)
              refine wpS_bind (wpS_elem hx2 ?_)
              rw [hx1] at hx2
              cases hx2
              have mC := mB2.pA' hna sa sb hx1 (fun y' h1' hy' => hlt2 y' hy')
              refine wpS_ite (fun c1 => ?_) (fun c1 => ?_)
              · exact wpS_pure ⟨gs2, .inl ⟨_, _, rfl, mC.done sa sb (.inl (by simpa using c1))⟩⟩
              have c1' : ¬ na - 1 = 0 := by simpa using c1
              refine wpS_ite (fun _ => ?_) (fun _ => ?_)
              · exact wpS_pure ⟨gs2, .inr ⟨_, _, _, _, _, _, rfl, mC, by omega, by have := lib2; omega, by omega⟩⟩
              · exact wpS_pure ⟨gs2, _, _, _, _, _, _, rfl, mC, by omega, by have := lib2; omega, by omega⟩
            · have k0'' : k' = nb - 1 := by omega
              have lib2 : 2 ≤ nb - 1 := by omega
              have hlt2 : ∀ y', b[nb - 1 - 1]? = some y' → ρ y' ≤ ρ x1 := fun y' hy' => by
                have := bey_t.mp (j2 (nb - 1 - 1) (by omega))
                rw [R_at hy'] at this
                omega
              obtain ⟨x2, hx2, mx2⟩ := mem_at ma (i := na - 1) (by omega)
              refine wpS_bind (wpS_elem hx2 ?_)
              rw [hx1] at hx2
              cases hx2
              have mC := mB.pA' hna sa sb hx1 (fun y' h1' hy' => hlt2 y' hy')
              refine wpS_ite (fun c1 => ?_) (fun c1 => ?_)
              · exact wpS_pure ⟨gs2, .inl ⟨_, _, rfl, mC.done sa sb (.inl (by simpa using c1))⟩⟩
              have c1' : ¬ na - 1 = 0 := by simpa using c1
              refine wpS_ite (fun _ => ?_) (fun _ => ?_)
              · exact wpS_pure ⟨gs2, .inr ⟨_, _, _, _, _, _, rfl, mC, by omega, by have := lib2; omega, by omega⟩⟩
              · exact wpS_pure ⟨gs2, _, _, _, _, _, _, rfl, mC, by omega, by have := lib2; omega, by omega⟩
        · refine wpS_bind (wpS_setMin fun st3 gs3 => ?_)
          have gs2 := gs.trans gs3
          have hk2 : kindOf st3 = k0 := gs2.kd.trans hk
          have qa := m.la
          have qb := m.lb
          obtain ⟨y, hy, my⟩ := mem_at mb (i := nb - 1) (by omega)
          refine wpS_bind (wpS_elem hy ?_)
          refine wpS_bind (wpS_gallop (base := 0) hL hk2 my (fun i hi => by rw [Nat.zero_add]; exact mem_at ma (by omega)) (sa.inn (by omega)) (by omega) fun k i1 i2 i3 => ?_)
          simp only [Nat.zero_add] at i2 i3
          dsimp only
          have mA := m.tA (k := k) i1 sa (fun z hz y' hy' => by
            obtain ⟨j, hj, e⟩ := mem_win hz
            have := bey_ff.mp (i3 (k + j) (by omega) (by omega))
            rw [R_at e] at this
            have := sb.upto' (by omega) hy hy'
            omega)
          refine wpS_ite (fun kp => ?_) (fun kp => ?_)
          · refine wpS_ite (fun c3 => ?_) (fun c3 => ?_)
            · exact wpS_pure ⟨gs2, .inl ⟨_, _, rfl, mA.done sa sb (.inl (by simpa using c3))⟩⟩
            have c3' : ¬ k = 0 := by simpa using c3
            have hna : 1 ≤ k := by omega
            have hgt : ∀ x, a[k - 1]? = some x → ρ x ≤ ρ y := fun x hx => by
              have := bey_f.mp (i2 (k - 1) (by omega))
              rw [R_at hx] at this
              exact this
            obtain ⟨y1, hy1, my1⟩ := mem_at mb (i := nb - 1) (by omega)
            refine wpS_bind (wpS_elem hy1 ?_)
            rw [hy] at hy1
            cases hy1
            have mB := mA.pB' (by omega) sa sb hy (fun x _ hx => hgt x hx)
            refine wpS_ite (fun c0 => ?_) (fun c0 => ?_)
            · have c0' : nb - 1 = 1 := by simpa using c0
              exact wpS_pure ⟨gs2, .inl ⟨_, _, rfl, mB.firstB sa sb (by rw [c0']; exact hfirst)⟩⟩
            have c0' : ¬ nb - 1 = 1 := by simpa using c0
            obtain ⟨x1, hx1, mx1⟩ := mem_at ma (i := k - 1) (by omega)
            refine wpS_bind (wpS_elem hx1 ?_)
            refine wpS_bind (wpS_gallop (base := 0) hL hk2 mx1 (fun i hi => by rw [Nat.zero_add]; exact mem_at mb (by omega)) (sb.inn (by omega)) (by omega) fun k' j1 j2 j3 => ?_)
            simp only [Nat.zero_add] at j2 j3
            dsimp only
            have mB2 := mB.tB (k := k') (by omega) sb (fun z hz y' hy' => by
              obtain ⟨j, hj, e⟩ := mem_win hz
              have := bey_tf.mp (j3 (k' + j) (by omega) (by omega))
              rw [R_at e] at this
              have := sa.upto' hna hx1 hy'
              omega)
            refine wpS_ite (fun k0' => ?_) (fun k0' => ?_)
            · refine wpS_ite (fun c2 => ?_) (fun c2 => ?_)
              · have c2' : k' = 1 := by simpa using c2
                exact wpS_pure ⟨gs2, .inl ⟨_, _, rfl, mB2.firstB sa sb (by rw [c2']; exact hfirst)⟩⟩
              have c2' : ¬ k' = 1 := by simpa using c2
              refine wpS_ite (fun c5 => ?_) (fun c5 => ?_)
              · exact wpS_pure ⟨gs2, .inl ⟨_, _, rfl, mB2.done sa sb (.inr (by simpa using c5))⟩⟩
              have c5' : ¬ k' = 0 := by simpa using c5
              have lib2 : 2 ≤ k' := by omega
              have hlt2 : ∀ y', b[k' - 1]? = some y' → ρ y' ≤ ρ x1 := fun y' hy' => by
                have := bey_t.mp (j2 (k' - 1) (by omega))
                rw [R_at hy'] at this
                omega
              obtain ⟨x2, hx2, mx2⟩ := mem_at ma (i := k - 1) (by omega)
              refine wpS_bind (wpS_elem hx2 ?_)
              rw [hx1] at hx2
              cases hx2
              have mC := mB2.pA' hna sa sb hx1 (fun y' h1' hy' => hlt2 y' hy')
              refine wpS_ite (fun c1 => ?_) (fun c1 => ?_)
              · exact wpS_pure ⟨gs2, .inl ⟨_, _, rfl, mC.done sa sb (.inl (by simpa using c1))⟩⟩
              have c1' : ¬ k - 1 = 0 := by simpa using c1
              refine wpS_ite (fun _ => ?_) (fun _ => ?_)
              · exact wpS_pure ⟨gs2, .inr ⟨_, _, _, _, _, _, rfl, mC, by omega, by have := lib2; omega, by omega⟩⟩
              · exact wpS_pure ⟨gs2, _, _, _, _, _, _, rfl, mC, by omega, by have := lib2; omega, by omega⟩
            · have k0'' : k' = nb - 1 := by omega
              have lib2 : 2 ≤ nb - 1 := by omega
              have hlt2 : ∀ y', b[nb - 1 - 1]? = some y' → ρ y' ≤ ρ x1 := fun y' hy' => by
                have := bey_t.mp (j2 (nb - 1 - 1) (by omega))
                rw [R_at hy'] at this
                omega
              obtain ⟨x2, hx2, mx2⟩ := mem_at ma (i := k - 1) (by omega)
              refine wpS_bind (wpS_elem hx2 ?_)
              rw [hx1] at hx2
              cases hx2
              have mC := mB.pA' hna sa sb hx1 (fun y' h1' hy' => hlt2 y' hy')
              refine wpS_ite (fun c1 => ?_) (fun c1 => ?_)
              · exact wpS_pure ⟨gs2, .inl ⟨_, _, rfl, mC.done sa sb (.inl (by simpa using c1))⟩⟩
              have c1' : ¬ k - 1 = 0 := by simpa using c1
              refine wpS_ite (fun _ => ?_) (fun _ => ?_)
              · exact wpS_pure ⟨gs2, .inr ⟨_, _, _, _, _, _, rfl, mC, by omega, by have := lib2; omega, by omega⟩⟩
              · exact wpS_pure ⟨gs2, _, _, _, _, _, _, rfl, mC, by omega, by have := lib2; omega, by omega⟩
          · have kp' : k = na := by omega
            have hna : 1 ≤ na := lA
            have hgt : ∀ x, a[na - 1]? = some x → ρ x ≤ ρ y := fun x hx => by
              have := bey_f.mp (i2 (na - 1) (by omega))
              rw [R_at hx] at this
              exact this
            obtain ⟨y1, hy1, my1⟩ := mem_at mb (i := nb - 1) (by omega)
            refine wpS_bind (wpS_elem hy1 ?_)
            rw [hy] at hy1
            cases hy1
            have mB := m.pB' (by omega) sa sb hy (fun x _ hx => hgt x hx)
            refine wpS_ite (fun c0 => ?_) (fun c0 => ?_)
            · have c0' : nb - 1 = 1 := by simpa using c0
              exact wpS_pure ⟨gs2, .inl ⟨_, _, rfl, mB.firstB sa sb (by rw [c0']; exact hfirst)⟩⟩
            have c0' : ¬ nb - 1 = 1 := by simpa using c0
            obtain ⟨x1, hx1, mx1⟩ := mem_at ma (i := na - 1) (by omega)
            refine wpS_bind (wpS_elem hx1 ?_)
            refine wpS_bind (wpS_gallop (base := 0) hL hk2 mx1 (fun i hi => by rw [Nat.zero_add]; exact mem_at mb (by omega)) (sb.inn (by omega)) (by omega) fun k' j1 j2 j3 => ?_)
            simp only [Nat.zero_add] at j2 j3
            dsimp only
            have mB2 := mB.tB (k := k') (by omega) sb (fun z hz y' hy' => by
              obtain ⟨j, hj, e⟩ := mem_win hz
              have := bey_tf.mp (j3 (k' + j) (by omega) (by omega))
              rw [R_at e] at this
              have := sa.upto' hna hx1 hy'
              omega)
            refine wpS_ite (fun k0' => ?_) (fun k0' => ?_)
            · refine wpS_ite (fun c2 => ?_) (fun c2 => ?_)
              · have c2' : k' = 1 := by simpa using c2
                exact wpS_pure ⟨gs2, .inl ⟨_, _, rfl, mB2.firstB sa sb (by rw [c2']; exact hfirst)⟩⟩
              have c2' : ¬ k' = 1 := by simpa using c2
              refine wpS_ite (fun c5 => ?_) (fun c5 => ?_)
              · exact wpS_pure ⟨gs2, .inl ⟨_, _, rfl, mB2.done sa sb (.inr (by simpa using c5))⟩⟩
              have c5' : ¬ k' = 0 := by simpa using c5
              have lib2 : 2 ≤ k' := by omega
              have hlt2 : ∀ y', b[k' - 1]? = some y' → ρ y' ≤ ρ x1 := fun y' hy' => by
                have := bey_t.mp (j2 (k' - 1) (by omega))
                rw [R_at hy'] at this
                omega
              obtain ⟨x2, hx2, mx2⟩ := mem_at ma (i := na - 1) (by omega)
              refine wpS_bind (wpS_elem hx2 ?_)
              rw [hx1] at hx2
              cases hx2
              have mC := mB2.pA' hna sa sb hx1 (fun y' h1' hy' => hlt2 y' hy')
              refine wpS_ite (fun c1 => ?_) (fun c1 => ?_)
              · exact wpS_pure ⟨gs2, .inl ⟨_, _, rfl, mC.done sa sb (.inl (by simpa using c1))⟩⟩
              have c1' : ¬ na - 1 = 0 := by simpa using c1
              refine wpS_ite (fun _ => ?_) (fun _ => ?_)
              · exact wpS_pure ⟨gs2, .inr ⟨_, _, _, _, _, _, rfl, mC, by omega, by have := lib2; omega, by omega⟩⟩
              · exact wpS_pure ⟨gs2, _, _, _, _, _, _, rfl, mC, by omega, by have := lib2; omega, by omega⟩
            · have k0'' : k' = nb - 1 := by omega
              have lib2 : 2 ≤ nb - 1 := by omega
              have hlt2 : ∀ y', b[nb - 1 - 1]? = some y' → ρ y' ≤ ρ x1 := fun y' hy' => by
                have := bey_t.mp (j2 (nb - 1 - 1) (by omega))
                rw [R_at hy'] at this
                omega
              obtain ⟨x2, hx2, mx2⟩ := mem_at ma (i := na - 1) (by omega)
              refine wpS_bind (wpS_elem hx2 ?_)
              rw [hx1] at hx2
              cases hx2
              have mC := mB.pA' hna sa sb hx1 (fun y' h1' hy' => hlt2 y' hy')
              refine wpS_ite (fun c1 => ?_) (fun c1 => ?_)
              · exact wpS_pure ⟨gs2, .inl ⟨_, _, rfl, mC.done sa sb (.inl (by simpa using c1))⟩⟩
              have c1' : ¬ na - 1 = 0 := by simpa using c1
              refine wpS_ite (fun _ => ?_) (fun _ => ?_)
              · exact wpS_pure ⟨gs2, .inr ⟨_, _, _, _, _, _, rfl, mC, by omega, by have := lib2; omega, by omega⟩⟩
              · exact wpS_pure ⟨gs2, _, _, _, _, _, _, rfl, mC, by omega, by have := lib2; omega, by omega⟩
end
end L2

set_option Elab.async false
set_option linter.all false
set_option maxRecDepth 100000
set_option maxHeartbeats 4000000
namespace L2
open PySem PySem.Spec PyProof.Rows
section
variable {prog : Program} {w : World} {A : Around} {E : Value → Shared → Prop} {s : Shared} {a₀ : Array Keyed} {ρ : Keyed → Int} {k0 : SortKind}
/-- the state of a sort under way -/
structure SB (a₀ : Array Keyed) (k0 : SortKind) (st : SortSt) : Prop where
  pm : (arrOf st).Perm a₀
  kd : kindOf st = k0
  fl : failedOf st = none
theorem SB.size {st : SortSt} (h : SB a₀ k0 st) : (arrOf st).size = a₀.size := h.pm.size_eq
/-- items are changed from lo to hi only -/
structure Ch (lo hi : Nat) (st st' : SortSt) : Prop where
  kd : kindOf st' = kindOf st
  pe : pendingOf st' = pendingOf st
  fl : failedOf st' = failedOf st
  pm : (arrOf st').Perm (arrOf st)
  ke : ∀ j, j < lo ∨ hi ≤ j → (arrOf st')[j]? = (arrOf st)[j]?
theorem Ch.refl (lo hi : Nat) (st : SortSt) : Ch lo hi st st := ⟨rfl, rfl, rfl, Array.Perm.refl _, fun _ _ => rfl⟩
theorem Ch.trans {lo hi : Nat} {a b c : SortSt} (h : Ch lo hi a b) (h' : Ch lo hi b c) : Ch lo hi a c := ⟨h'.kd.trans h.kd, h'.pe.trans h.pe, h'.fl.trans h.fl, h'.pm.trans h.pm, fun j hj => (h'.ke j hj).trans (h.ke j hj)⟩
theorem Ch.sb {lo hi : Nat} {st st' : SortSt} (h : Ch lo hi st st') (b : SB a₀ k0 st) : SB a₀ k0 st' := ⟨h.pm.trans b.pm, h.kd.trans b.kd, h.fl.trans b.fl⟩
theorem SB.at_ {st : SortSt} (h : SB a₀ k0 st) {i : Nat} (hi : i < a₀.size) : ∃ x, (arrOf st)[i]? = some x ∧ x ∈ a₀.toList := by
  have hi' : i < (arrOf st).size := by rw [h.size]; exact hi
  exact ⟨(arrOf st)[i], Array.getElem?_eq_getElem hi', (Array.perm_iff_toList_perm.mp h.pm).mem_iff.mp (by simp)⟩
theorem wpS_ltR (hL : LtBy prog w A s k0 ρ a₀) {st : SortSt} {i j : Nat} {Q : Option Bool → SortSt → Prop} (hB : SB a₀ k0 st) (hi : i < a₀.size) (hj : j < a₀.size) (h : Q (some (decide (R ρ (arrOf st) i < R ρ (arrOf st) j))) st) : wpS (model prog w) A E s (ltAt' i j) Q st := by
  obtain ⟨x, hx, mx⟩ := hB.at_ hi
  obtain ⟨y, hy, my⟩ := hB.at_ hj
  rw [R_at hx, R_at hy] at h
  rw [ltAt'_eq]
  refine wpS_bind (wpS_get ?_)
  exact wpS_bind (wpS_elem hx (wpS_bind (wpS_elem hy (hL hB.kd mx my h))))
theorem R_mirror {xs : Array Keyed} {i j : Nat} (hj : j ≤ xs.size) (k : Nat) : R ρ (mirror xs i j ((j - i) / 2)) k = if i ≤ k ∧ k < j then R ρ xs (i + j - 1 - k) else R ρ xs k := by
  unfold R
  rw [getElem?_mirror_all hj]
  split <;> rfl
theorem ch_mirror {st : SortSt} {lo hi i j : Nat} (h1 : lo ≤ i) (h2 : j ≤ hi) (hj : j ≤ (arrOf st).size) : Ch lo hi st (setArr st (mirror (arrOf st) i j ((j - i) / 2))) :=
  ⟨rfl, rfl, rfl, mirror_perm _ _ _ _, fun k hk => by
    show (mirror (arrOf st) i j ((j - i) / 2))[k]? = _
    rw [getElem?_mirror_all hj, if_neg (by omega)]⟩
def NonIn (ρ : Keyed → Int) (xs : Array Keyed) (lo hi : Nat) : Prop := ∀ i j, lo ≤ i → i ≤ j → j < hi → R ρ xs j ≤ R ρ xs i
theorem wpS_countR (hL : LtBy prog w A s k0 ρ a₀) {st : SortSt} {lo nrem : Nat} {Q : Option Nat → SortSt → Prop} (hn : lo + nrem ≤ a₀.size) (h1 : 1 ≤ nrem) (hB : SB a₀ k0 st)
    (h : ∀ m st', Ch lo (lo + nrem) st st' → 1 ≤ m → m ≤ nrem → SortedIn ρ (arrOf st') lo (lo + m) → Q (some m) st') : wpS (model prog w) A E s (countRun' lo nrem) Q st := by
  have hs1 : SortedIn ρ (arrOf st) lo (lo + 1) := fun i j h1 h2 h3 => by rw [show j = i by omega]; exact Int.le_refl _
  rw [countRun'_eq]
  dsimp only
  refine wpS_bind (wpS_mono (wpS_forRange (I := fun x c st' => st = st' ∧ c = (none, x) ∧ SortedIn ρ (arrOf st) lo (lo + x))
    (Q := fun c st' => st = st' ∧ ∃ mm, c = (none, mm) ∧ 1 ≤ mm ∧ mm ≤ nrem ∧ SortedIn ρ (arrOf st) lo (lo + mm) ∧ (mm = nrem ∨ R ρ (arrOf st) (lo + mm) < R ρ (arrOf st) (lo + mm - 1))) ?_ ?_ ⟨rfl, rfl, hs1⟩) ?_)
  · rintro x c st' hax hxn ⟨rfl, rfl, hs'⟩
    dsimp only
    refine wpS_bind (wpS_ltR hL (by assumption) (by omega) (by omega) ?_)
    by_cases hless : R ρ (arrOf st) (lo + x) < R ρ (arrOf st) (lo + x - 1)
    · simp only [hless, decide_true, if_true]
      exact wpS_pure ⟨rfl, x, rfl, hax, by omega, hs', .inr hless⟩
    · simp only [hless, decide_false, Bool.false_eq_true, if_false]
      refine wpS_pure ⟨rfl, rfl, fun i j h1 h2 h3 => ?_⟩
      by_cases hj : j < lo + x
      · exact hs' i j h1 h2 hj
      · have hj' : j = lo + x := by omega
        subst hj'
        by_cases hi : i = lo + x
        · subst hi; exact Int.le_refl _
        · exact Int.le_trans (hs' i (lo + x - 1) h1 (by omega) (by omega)) (Int.not_lt.mp hless)
  · rintro c st' ⟨rfl, rfl, hs'⟩
    rw [show max 1 nrem = nrem by omega] at hs' ⊢
    exact ⟨rfl, nrem, rfl, by omega, Nat.le_refl _, hs', .inl rfl⟩
  · rintro c _ ⟨rfl, n, rfl, hn1, hn2, hs1, hend⟩
    dsimp only
    refine wpS_ite (fun g => ?_) (fun g => ?_)
    · exact wpS_pure (h n _ (Ch.refl _ _ _) hn1 hn2 hs1)
    have g' : ¬ n = nrem := by simpa using g
    have hlt : R ρ (arrOf st) (lo + n) < R ρ (arrOf st) (lo + n - 1) := hend.resolve_left g'
    refine wpS_ite (fun g2 => ?_) (fun g2 => ?_)
    · refine wpS_bind (wpS_ltR hL hB (by omega) (by omega) ?_)
      by_cases hrose : R ρ (arrOf st) lo < R ρ (arrOf st) (lo + n - 1)
      · simp only [hrose, decide_true, if_true]
        exact wpS_pure (h n _ (Ch.refl _ _ _) hn1 hn2 hs1)
      · simp only [hrose, decide_false, Bool.false_eq_true, if_false]
        have hall : ∀ k, lo ≤ k → k < lo + n → R ρ (arrOf st) k = R ρ (arrOf st) lo := fun k h1 h2 => by
          have := hs1 lo k (Nat.le_refl _) h1 h2
          have := hs1 k (lo + n - 1) h1 (by omega) (by omega)
          omega
        refine wpS_bind (wpS_reverse ?_)
        have hsz : lo + n ≤ (arrOf st).size := by rw [hB.size]; omega
        have hch0 := ch_mirror (st := st) (lo := lo) (hi := lo + nrem) (i := lo) (j := lo + n) (Nat.le_refl _) (by omega) hsz
        have hB0 := hch0.sb hB
        have hR : ∀ k, R ρ (mirror (arrOf st) lo (lo + n) ((lo + n - lo) / 2)) k = R ρ (arrOf st) k := fun k => by
          rw [R_mirror hsz]
          split
          · rw [hall _ (by omega) (by omega), hall k (by omega) (by omega)]
          · rfl
        have hN0 : NonIn ρ (arrOf (setArr st (mirror (arrOf st) lo (lo + n) ((lo + n - lo) / 2)))) lo (lo + (n + 1)) := fun i j h1 h2 h3 => by
          show R ρ (mirror (arrOf st) _ _ _) j ≤ R ρ (mirror (arrOf st) _ _ _) i
          rw [hR, hR]
          have e1 := hall (lo + n - 1) (by omega) (by omega)
          by_cases hi : i < lo + n
          · rw [hall i h1 hi]
            by_cases hj : j < lo + n
            · rw [hall j (by omega) hj]; exact Int.le_refl _
            · rw [show j = lo + n by omega]; omega
          · rw [show j = i by omega]; exact Int.le_refl _
        generalize setArr st (mirror (arrOf st) lo (lo + n) ((lo + n - lo) / 2)) = st0 at hch0 hB0 hN0 ⊢
        refine wpS_bind (wpS_lift (wpAny_rule ⟨rfl, ?_⟩))
        refine wpS_bind (wpS_mono (wpS_forRange (I := fun x c st' => ∃ q, c = (none, x, q) ∧ Ch lo (lo + nrem) st st' ∧ SB a₀ k0 st' ∧ NonIn ρ (arrOf st') lo (lo + x) ∧ q + 1 ≤ x ∧ ∀ i, lo + x - (q + 1) ≤ i → i < lo + x → R ρ (arrOf st') i = R ρ (arrOf st') (lo + x - 1))
          (Q := fun c st' => ∃ m q, c = (none, m, q) ∧ m ≤ nrem ∧ n + 1 ≤ m ∧ Ch lo (lo + nrem) st st' ∧ SB a₀ k0 st' ∧ NonIn ρ (arrOf st') lo (lo + m) ∧ q + 1 ≤ m ∧ ∀ i, lo + m - (q + 1) ≤ i → i < lo + m → R ρ (arrOf st') i = R ρ (arrOf st') (lo + m - 1)) ?_ ?_ ⟨0, rfl, hch0, hB0, hN0, by omega, fun i h1 h2 => by congr 1; omega⟩) ?_)
        · rintro x c st' hax hxn ⟨q, rfl, hch, hB', hN', hq, heq⟩
          dsimp only
          refine wpS_bind (wpS_ltR hL hB' (by omega) (by omega) ?_)
          by_cases hless : R ρ (arrOf st') (lo + x) < R ρ (arrOf st') (lo + x - 1)
          · simp only [hless, decide_true, if_true]
            refine wpS_ite (fun hq0 => ?_) (fun hq0 => ?_)
            · refine wpS_bind (wpS_reverse ?_)
              have hsz : lo + x ≤ (arrOf st').size := by rw [hB'.size]; omega
              have hch' := ch_mirror (st := st') (lo := lo) (hi := lo + nrem) (i := lo + x - (q + 1)) (j := lo + x) (by omega) (by omega) hsz
              have hR : ∀ k, R ρ (mirror (arrOf st') (lo + x - (q + 1)) (lo + x) ((lo + x - (lo + x - (q + 1))) / 2)) k = R ρ (arrOf st') k := fun k => by
                rw [R_mirror hsz]
                split
                · rw [heq _ (by omega) (by omega), heq k (by omega) (by omega)]
                · rfl
              refine wpS_pure ⟨0, rfl, hch.trans hch', hch'.sb hB', fun i j h1 h2 h3 => ?_, by omega, fun i h1 h2 => by congr 1; omega⟩
              show R ρ (mirror (arrOf st') _ _ _) j ≤ R ρ (mirror (arrOf st') _ _ _) i
              rw [hR, hR]
              by_cases hj : j < lo + x
              · exact hN' i j h1 h2 hj
              · have : j = lo + x := by omega
                subst this
                by_cases hi : i = lo + x
                · subst hi; exact Int.le_refl _
                · have := hN' i (lo + x - 1) h1 (by omega) (by omega); omega
            · refine wpS_pure ⟨0, rfl, hch, hB', fun i j h1 h2 h3 => ?_, by omega, fun i h1 h2 => by congr 1; omega⟩
              by_cases hj : j < lo + x
              · exact hN' i j h1 h2 hj
              · have : j = lo + x := by omega
                subst this
                by_cases hi : i = lo + x
                · subst hi; exact Int.le_refl _
                · have := hN' i (lo + x - 1) h1 (by omega) (by omega); omega
          · simp only [hless, decide_false, Bool.false_eq_true, if_false]
            refine wpS_bind (wpS_ltR hL hB' (by omega) (by omega) ?_)
            by_cases hgr : R ρ (arrOf st') (lo + x - 1) < R ρ (arrOf st') (lo + x)
            · simp only [hgr, decide_true, if_true]
              exact wpS_pure ⟨x, q, rfl, by omega, by omega, hch, hB', hN', hq, heq⟩
            · simp only [hgr, decide_false, Bool.false_eq_true, if_false]
              have hee : R ρ (arrOf st') (lo + x) = R ρ (arrOf st') (lo + x - 1) := by omega
              refine wpS_pure ⟨q + 1, rfl, hch, hB', fun i j h1 h2 h3 => ?_, by omega, fun i h1 h2 => ?_⟩
              · by_cases hj : j < lo + x
                · exact hN' i j h1 h2 hj
                · have : j = lo + x := by omega
                  subst this
                  by_cases hi : i = lo + x
                  · subst hi; exact Int.le_refl _
                  · have := hN' i (lo + x - 1) h1 (by omega) (by omega); omega
              · rw [show lo + (x + 1) - 1 = lo + x by omega, hee]
                by_cases hi : i = lo + x
                · subst hi; exact hee
                · exact heq i (by omega) (by omega)
        · rintro c st' ⟨q, rfl, hch, hB', hN', hq, heq⟩
          rw [show max (n + 1) nrem = nrem by omega] at hN' hq heq ⊢
          exact ⟨nrem, q, rfl, Nat.le_refl _, by omega, hch, hB', hN', hq, heq⟩
        · rintro c st2 ⟨m, q, rfl, hm1, hm2, hch, hB', hN', hq, heq⟩
          dsimp only
          refine wpS_ite (fun hq0 => ?_) (fun hq0 => ?_)
          · refine wpS_bind (wpS_reverse ?_)
            have hsz : lo + m ≤ (arrOf st2).size := by rw [hB'.size]; omega
            have hch' := ch_mirror (st := st2) (lo := lo) (hi := lo + nrem) (i := lo + m - (q + 1)) (j := lo + m) (by omega) (by omega) hsz
            have hR : ∀ k, R ρ (mirror (arrOf st2) (lo + m - (q + 1)) (lo + m) ((lo + m - (lo + m - (q + 1))) / 2)) k = R ρ (arrOf st2) k := fun k => by
              rw [R_mirror hsz]
              split
              · rw [heq _ (by omega) (by omega), heq k (by omega) (by omega)]
              · rfl
            have hch3 := hch.trans hch'
            have hB3 := hch'.sb hB'
            have hN3 : NonIn ρ (arrOf (setArr st2 (mirror (arrOf st2) (lo + m - (q + 1)) (lo + m) ((lo + m - (lo + m - (q + 1))) / 2)))) lo (lo + m) := fun i j h1 h2 h3 => by
              show R ρ (mirror (arrOf st2) _ _ _) j ≤ R ρ (mirror (arrOf st2) _ _ _) i
              rw [hR, hR]
              exact hN' i j h1 h2 h3
            generalize setArr st2 (mirror (arrOf st2) (lo + m - (q + 1)) (lo + m) ((lo + m - (lo + m - (q + 1))) / 2)) = st3 at hch3 hB3 hN3 ⊢
            refine wpS_bind (wpS_reverse ?_)
            have hsz4 : lo + m ≤ (arrOf st3).size := by rw [hB3.size]; omega
            have hch4 := ch_mirror (st := st3) (lo := lo) (hi := lo + nrem) (i := lo) (j := lo + m) (Nat.le_refl _) (by omega) hsz4
            have hB4 := hch4.sb hB3
            have hs4 : SortedIn ρ (arrOf (setArr st3 (mirror (arrOf st3) lo (lo + m) ((lo + m - lo) / 2)))) lo (lo + m) := fun i j h1 h2 h3 => by
              show R ρ (mirror (arrOf st3) lo (lo + m) ((lo + m - lo) / 2)) i ≤ R ρ (mirror (arrOf st3) lo (lo + m) ((lo + m - lo) / 2)) j
              rw [R_mirror hsz4, R_mirror hsz4, if_pos (by omega), if_pos (by omega)]
              exact hN3 _ _ (by omega) (by omega) (by omega)
            generalize setArr st3 (mirror (arrOf st3) lo (lo + m) ((lo + m - lo) / 2)) = Y4 at hch4 hB4 hs4 ⊢
            refine wpS_bind (wpS_mono (wpS_forRange (I := fun x c st' => Y4 = st' ∧ c = (none, x) ∧ SortedIn ρ (arrOf Y4) lo (lo + x))
              (Q := fun c st' => Y4 = st' ∧ ∃ mm, c = (none, mm) ∧ m ≤ mm ∧ mm ≤ nrem ∧ SortedIn ρ (arrOf Y4) lo (lo + mm) ∧ (mm = nrem ∨ R ρ (arrOf Y4) (lo + mm) < R ρ (arrOf Y4) (lo + mm - 1))) ?_ ?_ ⟨rfl, rfl, hs4⟩) ?_)
            · rintro x c st' hax hxn ⟨rfl, rfl, hs'⟩
              dsimp only
              refine wpS_bind (wpS_ltR hL (by assumption) (by omega) (by omega) ?_)
              by_cases hless : R ρ (arrOf Y4) (lo + x) < R ρ (arrOf Y4) (lo + x - 1)
              · simp only [hless, decide_true, if_true]
                exact wpS_pure ⟨rfl, x, rfl, hax, by omega, hs', .inr hless⟩
              · simp only [hless, decide_false, Bool.false_eq_true, if_false]
                refine wpS_pure ⟨rfl, rfl, fun i j h1 h2 h3 => ?_⟩
                by_cases hj : j < lo + x
                · exact hs' i j h1 h2 hj
                · have hj' : j = lo + x := by omega
                  subst hj'
                  by_cases hi : i = lo + x
                  · subst hi; exact Int.le_refl _
                  · exact Int.le_trans (hs' i (lo + x - 1) h1 (by omega) (by omega)) (Int.not_lt.mp hless)
            · rintro c st' ⟨rfl, rfl, hs'⟩
              rw [show max m nrem = nrem by omega] at hs' ⊢
              exact ⟨rfl, nrem, rfl, by omega, Nat.le_refl _, hs', .inl rfl⟩
            · rintro c st4 ⟨rfl, mm, rfl, hn1', hn2', hn3', _⟩
              dsimp only
              exact wpS_pure (h mm _ (hch3.trans hch4) (by omega) hn2' hn3')
          · have hch3 := hch
            have hB3 := hB'
            have hN3 := hN'
            generalize st2 = st3 at hch3 hB3 hN3 ⊢
            refine wpS_bind (wpS_reverse ?_)
            have hsz4 : lo + m ≤ (arrOf st3).size := by rw [hB3.size]; omega
            have hch4 := ch_mirror (st := st3) (lo := lo) (hi := lo + nrem) (i := lo) (j := lo + m) (Nat.le_refl _) (by omega) hsz4
            have hB4 := hch4.sb hB3
            have hs4 : SortedIn ρ (arrOf (setArr st3 (mirror (arrOf st3) lo (lo + m) ((lo + m - lo) / 2)))) lo (lo + m) := fun i j h1 h2 h3 => by
              show R ρ (mirror (arrOf st3) lo (lo + m) ((lo + m - lo) / 2)) i ≤ R ρ (mirror (arrOf st3) lo (lo + m) ((lo + m - lo) / 2)) j
              rw [R_mirror hsz4, R_mirror hsz4, if_pos (by omega), if_pos (by omega)]
              exact hN3 _ _ (by omega) (by omega) (by omega)
            generalize setArr st3 (mirror (arrOf st3) lo (lo + m) ((lo + m - lo) / 2)) = Y4 at hch4 hB4 hs4 ⊢
            refine wpS_bind (wpS_mono (wpS_forRange (I := fun x c st' => Y4 = st' ∧ c = (none, x) ∧ SortedIn ρ (arrOf Y4) lo (lo + x))
              (Q := fun c st' => Y4 = st' ∧ ∃ mm, c = (none, mm) ∧ m ≤ mm ∧ mm ≤ nrem ∧ SortedIn ρ (arrOf Y4) lo (lo + mm) ∧ (mm = nrem ∨ R ρ (arrOf Y4) (lo + mm) < R ρ (arrOf Y4) (lo + mm - 1))) ?_ ?_ ⟨rfl, rfl, hs4⟩) ?_)
            · rintro x c st' hax hxn ⟨rfl, rfl, hs'⟩
              dsimp only
              refine wpS_bind (wpS_ltR hL (by assumption) (by omega) (by omega) ?_)
              by_cases hless : R ρ (arrOf Y4) (lo + x) < R ρ (arrOf Y4) (lo + x - 1)
              · simp only [hless, decide_true, if_true]
                exact wpS_pure ⟨rfl, x, rfl, hax, by omega, hs', .inr hless⟩
              · simp only [hless, decide_false, Bool.false_eq_true, if_false]
                refine wpS_pure ⟨rfl, rfl, fun i j h1 h2 h3 => ?_⟩
                by_cases hj : j < lo + x
                · exact hs' i j h1 h2 hj
                · have hj' : j = lo + x := by omega
                  subst hj'
                  by_cases hi : i = lo + x
                  · subst hi; exact Int.le_refl _
                  · exact Int.le_trans (hs' i (lo + x - 1) h1 (by omega) (by omega)) (Int.not_lt.mp hless)
            · rintro c st' ⟨rfl, rfl, hs'⟩
              rw [show max m nrem = nrem by omega] at hs' ⊢
              exact ⟨rfl, nrem, rfl, by omega, Nat.le_refl _, hs', .inl rfl⟩
            · rintro c st4 ⟨rfl, mm, rfl, hn1', hn2', hn3', _⟩
              dsimp only
              exact wpS_pure (h mm _ (hch3.trans hch4) (by omega) hn2' hn3')
    · have hn : n = 1 := by omega
      subst hn
      have hN0 : NonIn ρ (arrOf st) lo (lo + (1 + 1)) := fun i j h1 h2 h3 => by
        by_cases hi : i = lo
        · by_cases hj : j = lo
          · subst hi; subst hj; exact Int.le_refl _
          · rw [hi, show j = lo + 1 by omega]
            rw [show lo + 1 - 1 = lo by omega] at hlt
            omega
        · rw [show j = i by omega]; exact Int.le_refl _
      have hch0 := Ch.refl lo (lo + nrem) st
      have hB0 := hB
      refine wpS_bind (wpS_lift (wpAny_rule ⟨rfl, ?_⟩))
      refine wpS_bind (wpS_mono (wpS_forRange (I := fun x c st' => ∃ q, c = (none, x, q) ∧ Ch lo (lo + nrem) st st' ∧ SB a₀ k0 st' ∧ NonIn ρ (arrOf st') lo (lo + x) ∧ q + 1 ≤ x ∧ ∀ i, lo + x - (q + 1) ≤ i → i < lo + x → R ρ (arrOf st') i = R ρ (arrOf st') (lo + x - 1))
        (Q := fun c st' => ∃ m q, c = (none, m, q) ∧ m ≤ nrem ∧ 1 + 1 ≤ m ∧ Ch lo (lo + nrem) st st' ∧ SB a₀ k0 st' ∧ NonIn ρ (arrOf st') lo (lo + m) ∧ q + 1 ≤ m ∧ ∀ i, lo + m - (q + 1) ≤ i → i < lo + m → R ρ (arrOf st') i = R ρ (arrOf st') (lo + m - 1)) ?_ ?_ ⟨0, rfl, hch0, hB0, hN0, by omega, fun i h1 h2 => by congr 1; omega⟩) ?_)
      · rintro x c st' hax hxn ⟨q, rfl, hch, hB', hN', hq, heq⟩
        dsimp only
        refine wpS_bind (wpS_ltR hL hB' (by omega) (by omega) ?_)
        by_cases hless : R ρ (arrOf st') (lo + x) < R ρ (arrOf st') (lo + x - 1)
        · simp only [hless, decide_true, if_true]
          refine wpS_ite (fun hq0 => ?_) (fun hq0 => ?_)
          · refine wpS_bind (wpS_reverse ?_)
            have hsz : lo + x ≤ (arrOf st').size := by rw [hB'.size]; omega
            have hch' := ch_mirror (st := st') (lo := lo) (hi := lo + nrem) (i := lo + x - (q + 1)) (j := lo + x) (by omega) (by omega) hsz
            have hR : ∀ k, R ρ (mirror (arrOf st') (lo + x - (q + 1)) (lo + x) ((lo + x - (lo + x - (q + 1))) / 2)) k = R ρ (arrOf st') k := fun k => by
              rw [R_mirror hsz]
              split
              · rw [heq _ (by omega) (by omega), heq k (by omega) (by omega)]
              · rfl
            refine wpS_pure ⟨0, rfl, hch.trans hch', hch'.sb hB', fun i j h1 h2 h3 => ?_, by omega, fun i h1 h2 => by congr 1; omega⟩
            show R ρ (mirror (arrOf st') _ _ _) j ≤ R ρ (mirror (arrOf st') _ _ _) i
            rw [hR, hR]
            by_cases hj : j < lo + x
            · exact hN' i j h1 h2 hj
            · have : j = lo + x := by omega
              subst this
              by_cases hi : i = lo + x
              · subst hi; exact Int.le_refl _
              · have := hN' i (lo + x - 1) h1 (by omega) (by omega); omega
          · refine wpS_pure ⟨0, rfl, hch, hB', fun i j h1 h2 h3 => ?_, by omega, fun i h1 h2 => by congr 1; omega⟩
            by_cases hj : j < lo + x
            · exact hN' i j h1 h2 hj
            · have : j = lo + x := by omega
              subst this
              by_cases hi : i = lo + x
              · subst hi; exact Int.le_refl _
              · have := hN' i (lo + x - 1) h1 (by omega) (by omega); omega
        · simp only [hless, decide_false, Bool.false_eq_true, if_false]
          refine wpS_bind (wpS_ltR hL hB' (by omega) (by omega) ?_)
          by_cases hgr : R ρ (arrOf st') (lo + x - 1) < R ρ (arrOf st') (lo + x)
          · simp only [hgr, decide_true, if_true]
            exact wpS_pure ⟨x, q, rfl, by omega, by omega, hch, hB', hN', hq, heq⟩
          · simp only [hgr, decide_false, Bool.false_eq_true, if_false]
            have hee : R ρ (arrOf st') (lo + x) = R ρ (arrOf st') (lo + x - 1) := by omega
            refine wpS_pure ⟨q + 1, rfl, hch, hB', fun i j h1 h2 h3 => ?_, by omega, fun i h1 h2 => ?_⟩
            · by_cases hj : j < lo + x
              · exact hN' i j h1 h2 hj
              · have : j = lo + x := by omega
                subst this
                by_cases hi : i = lo + x
                · subst hi; exact Int.le_refl _
                · have := hN' i (lo + x - 1) h1 (by omega) (by omega); omega
            · rw [show lo + (x + 1) - 1 = lo + x by omega, hee]
              by_cases hi : i = lo + x
              · subst hi; exact hee
              · exact heq i (by omega) (by omega)
      · rintro c st' ⟨q, rfl, hch, hB', hN', hq, heq⟩
        rw [show max (1 + 1) nrem = nrem by omega] at hN' hq heq ⊢
        exact ⟨nrem, q, rfl, Nat.le_refl _, by omega, hch, hB', hN', hq, heq⟩
      · rintro c st2 ⟨m, q, rfl, hm1, hm2, hch, hB', hN', hq, heq⟩
        dsimp only
        refine wpS_ite (fun hq0 => ?_) (fun hq0 => ?_)
        · refine wpS_bind (wpS_reverse ?_)
          have hsz : lo + m ≤ (arrOf st2).size := by rw [hB'.size]; omega
          have hch' := ch_mirror (st := st2) (lo := lo) (hi := lo + nrem) (i := lo + m - (q + 1)) (j := lo + m) (by omega) (by omega) hsz
          have hR : ∀ k, R ρ (mirror (arrOf st2) (lo + m - (q + 1)) (lo + m) ((lo + m - (lo + m - (q + 1))) / 2)) k = R ρ (arrOf st2) k := fun k => by
            rw [R_mirror hsz]
            split
            · rw [heq _ (by omega) (by omega), heq k (by omega) (by omega)]
            · rfl
          have hch3 := hch.trans hch'
          have hB3 := hch'.sb hB'
          have hN3 : NonIn ρ (arrOf (setArr st2 (mirror (arrOf st2) (lo + m - (q + 1)) (lo + m) ((lo + m - (lo + m - (q + 1))) / 2)))) lo (lo + m) := fun i j h1 h2 h3 => by
            show R ρ (mirror (arrOf st2) _ _ _) j ≤ R ρ (mirror (arrOf st2) _ _ _) i
            rw [hR, hR]
            exact hN' i j h1 h2 h3
          generalize setArr st2 (mirror (arrOf st2) (lo + m - (q + 1)) (lo + m) ((lo + m - (lo + m - (q + 1))) / 2)) = st3 at hch3 hB3 hN3 ⊢
          refine wpS_bind (wpS_reverse ?_)
          have hsz4 : lo + m ≤ (arrOf st3).size := by rw [hB3.size]; omega
          have hch4 := ch_mirror (st := st3) (lo := lo) (hi := lo + nrem) (i := lo) (j := lo + m) (Nat.le_refl _) (by omega) hsz4
          have hB4 := hch4.sb hB3
          have hs4 : SortedIn ρ (arrOf (setArr st3 (mirror (arrOf st3) lo (lo + m) ((lo + m - lo) / 2)))) lo (lo + m) := fun i j h1 h2 h3 => by
            show R ρ (mirror (arrOf st3) lo (lo + m) ((lo + m - lo) / 2)) i ≤ R ρ (mirror (arrOf st3) lo (lo + m) ((lo + m - lo) / 2)) j
            rw [R_mirror hsz4, R_mirror hsz4, if_pos (by omega), if_pos (by omega)]
            exact hN3 _ _ (by omega) (by omega) (by omega)
          generalize setArr st3 (mirror (arrOf st3) lo (lo + m) ((lo + m - lo) / 2)) = Y4 at hch4 hB4 hs4 ⊢
          refine wpS_bind (wpS_mono (wpS_forRange (I := fun x c st' => Y4 = st' ∧ c = (none, x) ∧ SortedIn ρ (arrOf Y4) lo (lo + x))
            (Q := fun c st' => Y4 = st' ∧ ∃ mm, c = (none, mm) ∧ m ≤ mm ∧ mm ≤ nrem ∧ SortedIn ρ (arrOf Y4) lo (lo + mm) ∧ (mm = nrem ∨ R ρ (arrOf Y4) (lo + mm) < R ρ (arrOf Y4) (lo + mm - 1))) ?_ ?_ ⟨rfl, rfl, hs4⟩) ?_)
          · rintro x c st' hax hxn ⟨rfl, rfl, hs'⟩
            dsimp only
            refine wpS_bind (wpS_ltR hL (by assumption) (by omega) (by omega) ?_)
            by_cases hless : R ρ (arrOf Y4) (lo + x) < R ρ (arrOf Y4) (lo + x - 1)
            · simp only [hless, decide_true, if_true]
              exact wpS_pure ⟨rfl, x, rfl, hax, by omega, hs', .inr hless⟩
            · simp only [hless, decide_false, Bool.false_eq_true, if_false]
              refine wpS_pure ⟨rfl, rfl, fun i j h1 h2 h3 => ?_⟩
              by_cases hj : j < lo + x
              · exact hs' i j h1 h2 hj
              · have hj' : j = lo + x := by omega
                subst hj'
                by_cases hi : i = lo + x
                · subst hi; exact Int.le_refl _
                · exact Int.le_trans (hs' i (lo + x - 1) h1 (by omega) (by omega)) (Int.not_lt.mp hless)
          · rintro c st' ⟨rfl, rfl, hs'⟩
            rw [show max m nrem = nrem by omega] at hs' ⊢
            exact ⟨rfl, nrem, rfl, by omega, Nat.le_refl _, hs', .inl rfl⟩
          · rintro c st4 ⟨rfl, mm, rfl, hn1', hn2', hn3', _⟩
            dsimp only
            exact wpS_pure (h mm _ (hch3.trans hch4) (by omega) hn2' hn3')
        · have hch3 := hch
          have hB3 := hB'
          have hN3 := hN'
          generalize st2 = st3 at hch3 hB3 hN3 ⊢
          refine wpS_bind (wpS_reverse ?_)
          have hsz4 : lo + m ≤ (arrOf st3).size := by rw [hB3.size]; omega
          have hch4 := ch_mirror (st := st3) (lo := lo) (hi := lo + nrem) (i := lo) (j := lo + m) (Nat.le_refl _) (by omega) hsz4
          have hB4 := hch4.sb hB3
          have hs4 : SortedIn ρ (arrOf (setArr st3 (mirror (arrOf st3) lo (lo + m) ((lo + m - lo) / 2)))) lo (lo + m) := fun i j h1 h2 h3 => by
            show R ρ (mirror (arrOf st3) lo (lo + m) ((lo + m - lo) / 2)) i ≤ R ρ (mirror (arrOf st3) lo (lo + m) ((lo + m - lo) / 2)) j
            rw [R_mirror hsz4, R_mirror hsz4, if_pos (by omega), if_pos (by omega)]
            exact hN3 _ _ (by omega) (by omega) (by omega)
          generalize setArr st3 (mirror (arrOf st3) lo (lo + m) ((lo + m - lo) / 2)) = Y4 at hch4 hB4 hs4 ⊢
          refine wpS_bind (wpS_mono (wpS_forRange (I := fun x c st' => Y4 = st' ∧ c = (none, x) ∧ SortedIn ρ (arrOf Y4) lo (lo + x))
            (Q := fun c st' => Y4 = st' ∧ ∃ mm, c = (none, mm) ∧ m ≤ mm ∧ mm ≤ nrem ∧ SortedIn ρ (arrOf Y4) lo (lo + mm) ∧ (mm = nrem ∨ R ρ (arrOf Y4) (lo + mm) < R ρ (arrOf Y4) (lo + mm - 1))) ?_ ?_ ⟨rfl, rfl, hs4⟩) ?_)
          · rintro x c st' hax hxn ⟨rfl, rfl, hs'⟩
            dsimp only
            refine wpS_bind (wpS_ltR hL (by assumption) (by omega) (by omega) ?_)
            by_cases hless : R ρ (arrOf Y4) (lo + x) < R ρ (arrOf Y4) (lo + x - 1)
            · simp only [hless, decide_true, if_true]
              exact wpS_pure ⟨rfl, x, rfl, hax, by omega, hs', .inr hless⟩
            · simp only [hless, decide_false, Bool.false_eq_true, if_false]
              refine wpS_pure ⟨rfl, rfl, fun i j h1 h2 h3 => ?_⟩
              by_cases hj : j < lo + x
              · exact hs' i j h1 h2 hj
              · have hj' : j = lo + x := by omega
                subst hj'
                by_cases hi : i = lo + x
                · subst hi; exact Int.le_refl _
                · exact Int.le_trans (hs' i (lo + x - 1) h1 (by omega) (by omega)) (Int.not_lt.mp hless)
          · rintro c st' ⟨rfl, rfl, hs'⟩
            rw [show max m nrem = nrem by omega] at hs' ⊢
            exact ⟨rfl, nrem, rfl, by omega, Nat.le_refl _, hs', .inl rfl⟩
          · rintro c st4 ⟨rfl, mm, rfl, hn1', hn2', hn3', _⟩
            dsimp only
            exact wpS_pure (h mm _ (hch3.trans hch4) (by omega) hn2' hn3')
end
end L2

set_option Elab.async false
set_option linter.all false
set_option maxRecDepth 100000
set_option maxHeartbeats 4000000
namespace L2
open PySem PySem.Spec PyProof.Rows
section
variable {prog : Program} {w : World} {A : Around} {E : Value → Shared → Prop} {s : Shared} {a₀ : Array Keyed} {ρ : Keyed → Int} {k0 : SortKind}
theorem R_bubble {xs : Array Keyed} {src d : Nat} (hs : src < xs.size) (hd : d ≤ src) (k : Nat) : R ρ (bubble xs src d) k = if k = src - d then R ρ xs src else if src - d < k ∧ k ≤ src then R ρ xs (k - 1) else R ρ xs k := by
  unfold R
  rw [getElem?_bubble hs d hd]
  (repeat' split) <;> rfl
theorem wpS_binR (hL : LtBy prog w A s k0 ρ a₀) {st : SortSt} {lo n ok : Nat} {Q : Bool → SortSt → Prop} (hn : lo + n ≤ a₀.size) (hok : ok ≤ n) (hB : SB a₀ k0 st) (hs : SortedIn ρ (arrOf st) lo (lo + ok))
    (h : ∀ st', Ch lo (lo + n) st st' → SortedIn ρ (arrOf st') lo (lo + n) → Q true st') : wpS (model prog w) A E s (binarySort' lo n ok) Q st := by
  rw [binarySort'_eq]
  refine wpS_bind (wpS_mono (wpS_forRange (I := fun k c st' => c = (none, ()) ∧ Ch lo (lo + n) st st' ∧ SortedIn ρ (arrOf st') lo (lo + min k n))
    (Q := fun c st' => c = (none, ()) ∧ Ch lo (lo + n) st st' ∧ SortedIn ρ (arrOf st') lo (lo + n)) ?step ?fin ?init) ?post)
  case post =>
    rintro c st' ⟨rfl, hc, hs'⟩
    exact wpS_pure (h st' hc hs')
  case init =>
    refine ⟨rfl, Ch.refl _ _ _, fun i j h1 h2 h3 => ?_⟩
    by_cases q : ok = 0
    · rw [show j = i by omega]; exact Int.le_refl _
    · exact hs i j h1 h2 (by omega)
  case fin =>
    rintro c st' ⟨hc, hch, hs'⟩
    refine ⟨hc, hch, ?_⟩
    rwa [show min (max (max ok 1) n) n = n by omega] at hs'
  case step =>
    rintro k c st' hak hkn ⟨rfl, hch, hs'⟩
    rw [show min k n = k by omega] at hs'
    have hB' := hch.sb hB
    refine wpS_bind (wpS_mono (wpS_forRange (I := fun x c st'' => st' = st'' ∧ ∃ l r, c = (none, l, r) ∧ l ≤ r ∧ r ≤ k ∧ r - l ≤ k - x ∧ (∀ i, i < l → R ρ (arrOf st') (lo + i) ≤ R ρ (arrOf st') (lo + k)) ∧ (∀ i, r ≤ i → i < k → R ρ (arrOf st') (lo + k) < R ρ (arrOf st') (lo + i)))
      (Q := fun c st'' => st' = st'' ∧ ∃ l r, c = (none, l, r) ∧ l ≤ k ∧ (∀ i, i < l → R ρ (arrOf st') (lo + i) ≤ R ρ (arrOf st') (lo + k)) ∧ (∀ i, l ≤ i → i < k → R ρ (arrOf st') (lo + k) < R ρ (arrOf st') (lo + i))) ?istep ?ifin ⟨rfl, 0, k, rfl, by omega, by omega, by omega, fun i hi => by omega, fun i h1 h2 => by omega⟩) ?ipost)
    case ifin =>
      rintro c _ ⟨rfl, l, r, rfl, q1, q2, q3, q4, q5⟩
      exact ⟨rfl, l, r, rfl, by omega, q4, fun i h1 h2 => q5 i (by omega) h2⟩
    case istep =>
      rintro x c _ _ hx ⟨rfl, l, r, rfl, q1, q2, q3, q4, q5⟩
      dsimp only
      refine wpS_ite (fun g => ?_) (fun g => ?_)
      · exact wpS_pure ⟨rfl, l, r, rfl, by omega, q4, fun i h1 h2 => q5 i (by omega) h2⟩
      · refine wpS_bind (wpS_ltR hL hB' (by omega) (by omega) ?_)
        by_cases hless : R ρ (arrOf st') (lo + k) < R ρ (arrOf st') (lo + (l + r) / 2)
        · simp only [hless, decide_true, if_true]
          refine wpS_pure ⟨rfl, l, (l + r) / 2, rfl, by omega, by omega, by omega, q4, fun i h1 h2 => ?_⟩
          have := hs' (lo + (l + r) / 2) (lo + i) (by omega) (by omega) (by omega)
          omega
        · simp only [hless, decide_false, Bool.false_eq_true, if_false]
          refine wpS_pure ⟨rfl, (l + r) / 2 + 1, r, rfl, by omega, by omega, by omega, fun i h1 => ?_, q5⟩
          have := hs' (lo + i) (lo + (l + r) / 2) (by omega) (by omega) (by omega)
          omega
    case ipost =>
      rintro c _ ⟨rfl, l, r, rfl, q1, q4, q5⟩
      dsimp only
      rw [moveDown'_eq]
      have hsz : lo + k < (arrOf st').size := by rw [hB'.size]; omega
      have hd : lo + k - (lo + l) ≤ lo + k := by omega
      refine wpS_bind (wpS_modify (wpS_pure ⟨rfl, hch.trans ⟨rfl, rfl, rfl, bubble_perm _ _ _, fun j hj => ?_⟩, fun i j h1 h2 h3 => ?_⟩))
      · show (bubble (arrOf st') (lo + k) (lo + k - (lo + l)))[j]? = _
        rw [getElem?_bubble hsz _ hd, if_neg (by omega), if_neg (by omega)]
      · show R ρ (bubble (arrOf st') (lo + k) (lo + k - (lo + l))) i ≤ R ρ (bubble (arrOf st') (lo + k) (lo + k - (lo + l))) j
        rw [show min (k + 1) n = k + 1 by omega] at h3
        rw [R_bubble hsz hd, R_bubble hsz hd]
        have f4 : ∀ p, lo ≤ p → p < lo + l → R ρ (arrOf st') p ≤ R ρ (arrOf st') (lo + k) := fun p a1 a2 => by
          have := q4 (p - lo) (by omega)
          rwa [show lo + (p - lo) = p by omega] at this
        have f5 : ∀ p, lo + l ≤ p → p < lo + k → R ρ (arrOf st') (lo + k) ≤ R ρ (arrOf st') p := fun p a1 a2 => by
          have := q5 (p - lo) (by omega) (by omega)
          rw [show lo + (p - lo) = p by omega] at this
          omega
        repeat' split
        all_goals first
          | (exfalso; omega)
          | exact Int.le_refl _
          | exact f4 _ (by omega) (by omega)
          | exact f5 _ (by omega) (by omega)
          | exact hs' _ _ (by omega) (by omega) (by omega)
theorem laid_l (s0 : Nat) : ∀ (l : List Keyed) (n : Nat) (arr : Array Keyed), s0 + n + l.length ≤ arr.size → ((l.zipIdx n).foldl (fun a p => a.setIfInBounds (s0 + p.2) p.1) arr).toList = arr.toList.take (s0 + n) ++ l ++ arr.toList.drop (s0 + n + l.length)
  | [], n, arr, h => by simp
  | x :: l, n, arr, h => by
    rw [List.zipIdx_cons, List.foldl_cons, laid_l s0 l (n + 1) _ (by simp at h ⊢; omega)]
    have hn : s0 + n < arr.size := by simp at h; omega
    rw [Array.toList_setIfInBounds, show s0 + (n + 1) = (s0 + n) + 1 by omega, List.take_add_one, List.getElem?_set_self (by simpa using hn), List.take_set_of_le (Nat.le_refl _), List.drop_set_of_lt (by omega)]
    simp only [Option.toList_some, List.length_cons, List.append_assoc, List.singleton_append, List.cons_append, List.nil_append]
    rw [show s0 + n + 1 + l.length = s0 + n + (l.length + 1) by omega]
theorem SortedIn.ls {xs : Array Keyed} {lo hi : Nat} (h : SortedIn ρ xs lo hi) (hh : hi ≤ xs.size) : Ls ρ (xs.extract lo hi).toList := by
  unfold Ls
  rw [ext_l, List.pairwise_iff_getElem]
  intro i j hi' hj' hij
  simp only [List.length_take, List.length_drop, Array.length_toList] at hi' hj'
  have e : ∀ (p : Nat) (hp : p < ((xs.toList.drop lo).take (hi - lo)).length), ρ ((xs.toList.drop lo).take (hi - lo))[p] = R ρ xs (lo + p) := fun p hp => by
    simp only [List.length_take, List.length_drop, Array.length_toList] at hp
    rw [R_at (x := xs[lo + p]'(by omega)) (Array.getElem?_eq_getElem (by omega)), List.getElem_take, List.getElem_drop]
    simp
  rw [e i (by simp; omega), e j (by simp; omega)]
  exact h _ _ (by omega) (by omega) (by omega)
theorem ext_mem {xs : Array Keyed} {lo hi : Nat} {x : Keyed} (h : x ∈ (xs.extract lo hi).toList) : ∃ p, lo ≤ p ∧ p < hi ∧ xs[p]? = some x := by
  rw [ext_l] at h
  obtain ⟨j, hj, e⟩ := mem_win h
  exact ⟨lo + j, by omega, by omega, e⟩
theorem ext_at {xs : Array Keyed} {lo hi i : Nat} (h : lo + i < hi) (hh : hi ≤ xs.size) : (xs.extract lo hi)[i]? = xs[lo + i]? := by
  rw [Array.getElem?_extract, if_pos (by omega)]
theorem ext_size {xs : Array Keyed} {lo hi : Nat} (hh : hi ≤ xs.size) : (xs.extract lo hi).size = hi - lo := by
  rw [Array.size_extract, Nat.min_eq_left hh]
/-- a window is laid anew -/
theorem merged_ok {arr r : Array Keyed} {sa sb k k' nb : Nat} (h1 : sa + k < sb) (h2 : k' ≤ nb) (h3 : sb + nb ≤ arr.size) (s1 : SortedIn ρ arr sa sb) (s2 : SortedIn ρ arr sb (sb + nb)) (hr : RS ρ (arr.extract (sa + k) sb) (arr.extract sb (sb + k')) r)
    (hk2 : ∀ i, i < k → R ρ arr (sa + i) ≤ R ρ arr sb) (hk3 : ∀ i, k' ≤ i → i < nb → R ρ arr (sb - 1) ≤ R ρ arr (sb + i)) (hnb : 1 ≤ nb) :
    ((r.toList.zipIdx).foldl (fun a p => a.setIfInBounds (sa + k + p.2) p.1) arr).Perm arr ∧ (∀ j, j < sa + k ∨ sb + k' ≤ j → ((r.toList.zipIdx).foldl (fun a p => a.setIfInBounds (sa + k + p.2) p.1) arr)[j]? = arr[j]?) ∧ SortedIn ρ ((r.toList.zipIdx).foldl (fun a p => a.setIfInBounds (sa + k + p.2) p.1) arr) sa (sb + nb) := by
  have hrl : r.toList.length = sb + k' - (sa + k) := by
    rw [hr.1.length_eq, List.length_append, Array.length_toList, Array.length_toList, ext_size (by omega), ext_size (by omega)]
    omega
  have hl := laid_l (sa + k) r.toList 0 arr (by omega)
  rw [Nat.add_zero, hrl, show sa + k + (sb + k' - (sa + k)) = sb + k' by omega] at hl
  generalize (r.toList.zipIdx).foldl (fun a p => a.setIfInBounds (sa + k + p.2) p.1) arr = new at hl ⊢
  have hat : ∀ j, new[j]? = if sa + k ≤ j ∧ j < sb + k' then r[j - (sa + k)]? else arr[j]? := fun j => by
    rw [← Array.getElem?_toList, hl]
    by_cases q1 : j < sa + k
    · rw [if_neg (by omega), List.append_assoc, List.getElem?_append_left (by simp; omega), List.getElem?_take_of_lt q1, Array.getElem?_toList]
    · by_cases q2 : j < sb + k'
      · rw [if_pos (by omega), List.append_assoc, List.getElem?_append_right (by simp; omega), List.getElem?_append_left (by simp at hrl ⊢; omega), Array.getElem?_toList]
        congr 1
        simp; omega
      · rw [if_neg (by omega), List.getElem?_append_right (by simp at hrl ⊢; omega), List.getElem?_drop, Array.getElem?_toList]
        congr 1
        simp at hrl ⊢; omega
  have hR : ∀ j, R ρ new j = if sa + k ≤ j ∧ j < sb + k' then R ρ r (j - (sa + k)) else R ρ arr j := fun j => by
    unfold R
    rw [hat]
    split <;> rfl
  have hin : ∀ j, j < sb + k' - (sa + k) → ∃ p, sa + k ≤ p ∧ p < sb + k' ∧ R ρ r j = R ρ arr p := fun j hj => by
    have hj' : j < r.size := by simpa using (by omega : j < r.toList.length)
    have hm : r[j] ∈ r.toList := by simp
    rcases List.mem_append.mp (hr.1.mem_iff.mp hm) with z | z
    · obtain ⟨p, p1, p2, e⟩ := ext_mem z
      exact ⟨p, p1, by omega, by rw [R_at e, R_at (Array.getElem?_eq_getElem hj')]⟩
    · obtain ⟨p, p1, p2, e⟩ := ext_mem z
      exact ⟨p, by omega, p2, by rw [R_at e, R_at (Array.getElem?_eq_getElem hj')]⟩
  refine ⟨?_, fun j hj => by rw [hat, if_neg (by omega)], fun i j i1 i2 i3 => ?_⟩
  · rw [Array.perm_iff_toList_perm, hl]
    have e : arr.toList = arr.toList.take (sa + k) ++ ((arr.extract (sa + k) sb).toList ++ (arr.extract sb (sb + k')).toList) ++ arr.toList.drop (sb + k') := by
      rw [ext_l, ext_l]
      have a1 := win_drop arr.toList (i := sa + k) (j := sb) (by omega)
      have a2 := win_drop arr.toList (i := sb) (j := sb + k') (by omega)
      rw [a2] at a1
      conv => lhs; rw [← List.take_append_drop (sa + k) arr.toList, a1]
      simp only [List.append_assoc]
    conv => rhs; rw [e]
    exact (List.Perm.append_left _ hr.1).append_right _
  · rw [hR, hR]
    have hb0 : ∀ q, sa ≤ q → q < sa + k → R ρ arr q ≤ R ρ arr sb := fun q a1 a2 => by
      have := hk2 (q - sa) (by omega)
      rwa [show sa + (q - sa) = q by omega] at this
    have hb3 : ∀ q, sb + k' ≤ q → q < sb + nb → R ρ arr (sb - 1) ≤ R ρ arr q := fun q a1 a2 => by
      have := hk3 (q - sb) (by omega) (by omega)
      rwa [show sb + (q - sb) = q by omega] at this
    by_cases zi : sa + k ≤ i ∧ i < sb + k'
    · rw [if_pos zi]
      by_cases zj : sa + k ≤ j ∧ j < sb + k'
      · rw [if_pos zj]
        exact hr.2.inn (lo := 0) (Nat.le_refl _) _ _ (Nat.zero_le _) (by omega) (by simpa using (by omega : j - (sa + k) < r.toList.length))
      · rw [if_neg zj]
        obtain ⟨p, p1, p2, e⟩ := hin (i - (sa + k)) (by omega)
        rw [e]
        by_cases q : p < sb
        · have a1 := s1 p (sb - 1) (by omega) (by omega) (by omega)
          have a2 := hb3 j (by omega) i3
          omega
        · exact s2 p j (by omega) (by omega) i3
    · rw [if_neg zi]
      by_cases zj : sa + k ≤ j ∧ j < sb + k'
      · rw [if_pos zj]
        obtain ⟨p, p1, p2, e⟩ := hin (j - (sa + k)) (by omega)
        rw [e]
        by_cases q : p < sb
        · exact s1 i p i1 (by omega) q
        · have a1 := hb0 i i1 (by omega)
          have a2 := s2 sb p (Nat.le_refl _) (by omega) (by omega)
          omega
      · rw [if_neg zj]
        by_cases q : j < sb
        · exact s1 i j i1 i2 q
        · by_cases q2 : i < sb
          · have a1 := hb0 i i1 (by omega)
            have a2 := s2 sb j (Nat.le_refl _) (by omega) i3
            omega
          · exact s2 i j (by omega) i2 i3
theorem wpS_set {σ : Type} {M : Model} {st st2 : σ} {Q : PUnit → σ → Prop} (h : Q ⟨⟩ st2) : wpS M A E s (set st2 : StateT σ Sem PUnit) Q st := by
  unfold wpS; rw [StateT.run_set]; exact wpAny_pure ⟨rfl, h⟩
end
end L2

set_option Elab.async false
set_option linter.all false
set_option maxRecDepth 100000
set_option maxHeartbeats 4000000
namespace L2
open PySem PySem.Spec PyProof.Rows
local macro_rules | `(tactic| walk_at "mergeAt") => do
  let n := Lean.mkIdent ((Lean.Name.num `_private.PySem.Builtin.List.W1All 0) ++ `PySem.Builtin.mergeAt)
  `(tactic| (delta mergeAt'; delta $n:ident; dsimp only))
section
variable {prog : Program} {w : World} {A : Around} {E : Value → Shared → Prop} {s : Shared} {a₀ : Array Keyed} {ρ : Keyed → Int} {k0 : SortKind}
theorem wpS_mergeAt (hL : LtBy prog w A s k0 ρ a₀) {st : SortSt} (hB : SB a₀ k0 st) {i sa na pw nb pw2 : Nat} {Q : Bool → SortSt → Prop} (hi : (pendingOf st)[i]? = some (sa, na, pw)) (hj : (pendingOf st)[i + 1]? = some (sa + na, nb, pw2)) (h1 : 1 ≤ na) (h2 : 1 ≤ nb) (he : sa + na + nb ≤ a₀.size)
    (s1 : SortedIn ρ (arrOf st) sa (sa + na)) (s2 : SortedIn ρ (arrOf st) (sa + na) (sa + na + nb))
    (h : ∀ st', kindOf st' = kindOf st → failedOf st' = none → pendingOf st' = ((pendingOf st).setIfInBounds i (sa, na + nb, pw)).eraseIdxIfInBounds (i + 1) → (arrOf st').Perm (arrOf st) → (∀ j, j < sa ∨ sa + na + nb ≤ j → (arrOf st')[j]? = (arrOf st)[j]?) → SortedIn ρ (arrOf st') sa (sa + na + nb) → Q true st') :
    wpS (model prog w) A E s (mergeAt' i) Q st := by
  walk_at "mergeAt"
  refine wpS_bind (wpS_get ?_)
  rw [hi, hj]
  dsimp only
  refine wpS_bind (wpS_set ?_)
  obtain ⟨y0, hy0, my0⟩ := hB.at_ (i := sa + na) (by omega)
  refine wpS_bind (wpS_elem hy0 ?_)
  refine wpS_bind (wpS_gallop (hint := 0) (arr := arrOf st) hL (by exact hB.kd) my0 (fun j hj => hB.at_ (by omega)) s1 (by omega) fun k k1 k2 k3 => ?_)
  dsimp only
  refine wpS_ite (fun g => ?_) (fun g => ?_)
  · have g' : k = na := by have : na - k = 0 := by simpa using g
                           omega
    subst g'
    refine wpS_pure (h _ rfl hB.fl rfl (Array.Perm.refl _) (fun _ _ => rfl) fun i j i1 i2 i3 => ?_)
    show R ρ (arrOf st) i ≤ R ρ (arrOf st) j
    by_cases q : j < sa + k
    · exact s1 i j i1 i2 q
    · by_cases q2 : i < sa + k
      · have := bey_f.mp (k2 (i - sa) (by omega))
        rw [show sa + (i - sa) = i by omega, ← R_at (ρ := ρ) hy0] at this
        have := s2 (sa + k) j (Nat.le_refl _) (by omega) i3
        omega
      · exact s2 i j (by omega) i2 i3
  have g' : k < na := by have : ¬ na - k = 0 := by simpa using g
                         omega
  obtain ⟨x1, hx1, mx1⟩ := hB.at_ (i := sa + k + (na - k) - 1) (by omega)
  refine wpS_bind (wpS_elem hx1 ?_)
  refine wpS_bind (wpS_gallop (hint := nb - 1) (arr := arrOf st) hL (by exact hB.kd) mx1 (fun j hj => hB.at_ (by omega)) s2 (by omega) fun k' j1 j2 j3 => ?_)
  dsimp only
  refine wpS_ite (fun g3 => ?_) (fun g3 => ?_)
  · have g3' : k' = 0 := by simpa using g3
    refine wpS_pure (h _ rfl hB.fl rfl (Array.Perm.refl _) (fun _ _ => rfl) fun i j i1 i2 i3 => ?_)
    show R ρ (arrOf st) i ≤ R ρ (arrOf st) j
    by_cases q : j < sa + na
    · exact s1 i j i1 i2 q
    · by_cases q2 : i < sa + na
      · have := bey_tf.mp (j3 (j - (sa + na)) (by omega) (by omega))
        rw [show sa + na + (j - (sa + na)) = j by omega, ← R_at (ρ := ρ) hx1, show sa + k + (na - k) - 1 = sa + na - 1 by omega] at this
        have := s1 i (sa + na - 1) i1 (by omega) (by omega)
        omega
      · exact s2 i j (by omega) i2 i3
  have g3' : ¬ k' = 0 := by simpa using g3
  have hsz := hB.size
  have la : Ls ρ ((arrOf st).extract (sa + k) (sa + na)).toList := SortedIn.ls (fun i j a1 a2 a3 => s1 i j (by omega) a2 a3) (by omega)
  have lb : Ls ρ ((arrOf st).extract (sa + na) (sa + na + k')).toList := SortedIn.ls (fun i j a1 a2 a3 => s2 i j a1 a2 (by omega)) (by omega)
  have mem : ∀ lo hi x, x ∈ ((arrOf st).extract lo hi).toList → x ∈ a₀.toList := fun lo hi x hx => by
    obtain ⟨p, _, _, e⟩ := ext_mem hx
    exact (Array.perm_iff_toList_perm.mp hB.pm).mem_iff.mp (at_mem e)
  have za : ((arrOf st).extract (sa + k) (sa + na)).size = na - k := by rw [ext_size (by omega)]; omega
  have zb : ((arrOf st).extract (sa + na) (sa + na + k')).size = k' := by rw [ext_size (by omega)]; omega
  have fa : ∀ p x, sa + k ≤ p → p < sa + na → (arrOf st)[p]? = some x → ρ y0 ≤ ρ x := fun p x p1 p2 e => by
    have := bey_ff.mp (k3 (p - sa) (by omega) (by omega))
    rw [show sa + (p - sa) = p by omega, R_at e] at this
    omega
  have fb : ∀ p x, sa + na ≤ p → p < sa + na + k' → (arrOf st)[p]? = some x → ρ x ≤ ρ x1 := fun p x p1 p2 e => by
    have := bey_t.mp (j2 (p - (sa + na)) (by omega))
    rw [show sa + na + (p - (sa + na)) = p by omega, R_at e] at this
    omega
  have b0 : ∀ y, ((arrOf st).extract (sa + na) (sa + na + k'))[0]? = some y → y = y0 := fun y hy => by
    rw [ext_at (by omega) (by omega), Nat.add_zero, hy0] at hy
    exact (Option.some.inj hy).symm
  have al : ∀ x, ((arrOf st).extract (sa + k) (sa + na))[na - k - 1]? = some x → x = x1 := fun x hx => by
    rw [ext_at (by omega) (by omega), show sa + k + (na - k - 1) = sa + k + (na - k) - 1 by omega, hx1] at hx
    exact (Option.some.inj hx).symm
  refine wpS_ite (fun _ => ?_) (fun _ => ?_)
  · refine wpS_bind (wpS_mergeLo (a := (arrOf st).extract (sa + k) (sa + na)) (b := (arrOf st).extract (sa + na) (sa + na + k')) hL (by exact hB.kd) la lb (mem _ _) (mem _ _) (by omega) (by omega) (fun x y hx hy => ?_) (fun x hx y hy => ?_) ?_)
    · rw [b0 y hy]
      rw [ext_at (by omega) (by omega), Nat.add_zero] at hx
      exact fa _ x (Nat.le_refl _) (by omega) hx
    · obtain ⟨p, p1, p2, e⟩ := ext_mem hy
      have hx' := hx
      rw [za] at hx'
      have : x = x1 := by
        have hlt : na - k - 1 < ((arrOf st).extract (sa + k) (sa + na)).size := by omega
        have hz : x ∈ (((arrOf st).extract (sa + k) (sa + na)).toList.drop (na - k - 1)).take 1 := by
          rw [List.take_of_length_le (by simp [za] ; omega)]; exact hx'
        rw [one_take (Array.getElem?_eq_getElem hlt) hz]
        exact al _ (Array.getElem?_eq_getElem hlt)
      rw [this]
      exact fb p y p1 p2 e
    · intro r st2 gs hr
      refine wpS_bind (wpS_modify ?_)
      refine wpS_bind (wpS_get ?_)
      have hf : failedOf st2 = none := gs.fl.trans hB.fl
      have har : arrOf st2 = arrOf st := gs.ar
      obtain ⟨o1, o2, o3⟩ := merged_ok (ρ := ρ) (arr := arrOf st) (r := r) (sa := sa) (sb := sa + na) (k := k) (k' := k') (nb := nb) (by omega) j1 (by rw [hB.size]; omega) s1 s2 hr (fun i hi => by have := bey_f.mp (k2 i hi); rwa [← R_at (ρ := ρ) hy0] at this) (fun i i1 i2 => by
        have := bey_tf.mp (j3 i i1 i2)
        rwa [← R_at (ρ := ρ) hx1, show sa + k + (na - k) - 1 = sa + na - 1 by omega] at this) h2
      refine wpS_pure ?_
      show Q (failedOf st2).isNone _
      rw [hf]
      refine h _ gs.kd hf gs.pe ?_ ?_ ?_
      · show ((r.toList.zipIdx).foldl (fun a p => a.setIfInBounds (sa + k + p.2) p.1) (arrOf st2)).Perm _
        rw [har]; exact o1
      · intro j hj
        show ((r.toList.zipIdx).foldl (fun a p => a.setIfInBounds (sa + k + p.2) p.1) (arrOf st2))[j]? = _
        rw [har]; exact o2 j (by omega)
      · show SortedIn ρ ((r.toList.zipIdx).foldl (fun a p => a.setIfInBounds (sa + k + p.2) p.1) (arrOf st2)) sa (sa + na + nb)
        rw [har]; exact o3
  · refine wpS_bind (wpS_mergeHi (a := (arrOf st).extract (sa + k) (sa + na)) (b := (arrOf st).extract (sa + na) (sa + na + k')) hL (by exact hB.kd) la lb (mem _ _) (mem _ _) (by omega) (by omega) (fun x hx y hy => ?_) (fun x hx y hy => ?_) ?_)
    · obtain ⟨p, p1, p2, e⟩ := ext_mem hy
      have hlt : 0 < ((arrOf st).extract (sa + na) (sa + na + k')).size := by omega
      have hz : x ∈ (((arrOf st).extract (sa + na) (sa + na + k')).toList.drop 0).take 1 := hx
      rw [one_take (Array.getElem?_eq_getElem hlt) hz, b0 _ (Array.getElem?_eq_getElem hlt)]
      exact fa p y p1 p2 e
    · rw [za] at hx
      rw [al x hx]
      obtain ⟨p, p1, p2, e⟩ := ext_mem hy
      exact fb p y p1 p2 e
    · intro r st2 gs hr
      refine wpS_bind (wpS_modify ?_)
      refine wpS_bind (wpS_get ?_)
      have hf : failedOf st2 = none := gs.fl.trans hB.fl
      have har : arrOf st2 = arrOf st := gs.ar
      obtain ⟨o1, o2, o3⟩ := merged_ok (ρ := ρ) (arr := arrOf st) (r := r) (sa := sa) (sb := sa + na) (k := k) (k' := k') (nb := nb) (by omega) j1 (by rw [hB.size]; omega) s1 s2 hr (fun i hi => by have := bey_f.mp (k2 i hi); rwa [← R_at (ρ := ρ) hy0] at this) (fun i i1 i2 => by
        have := bey_tf.mp (j3 i i1 i2)
        rwa [← R_at (ρ := ρ) hx1, show sa + k + (na - k) - 1 = sa + na - 1 by omega] at this) h2
      refine wpS_pure ?_
      show Q (failedOf st2).isNone _
      rw [hf]
      refine h _ gs.kd hf gs.pe ?_ ?_ ?_
      · show ((r.toList.zipIdx).foldl (fun a p => a.setIfInBounds (sa + k + p.2) p.1) (arrOf st2)).Perm _
        rw [har]; exact o1
      · intro j hj
        show ((r.toList.zipIdx).foldl (fun a p => a.setIfInBounds (sa + k + p.2) p.1) (arrOf st2))[j]? = _
        rw [har]; exact o2 j (by omega)
      · show SortedIn ρ ((r.toList.zipIdx).foldl (fun a p => a.setIfInBounds (sa + k + p.2) p.1) (arrOf st2)) sa (sa + na + nb)
        rw [har]; exact o3
end
end L2

set_option Elab.async false
set_option linter.all false
set_option maxRecDepth 100000
set_option maxHeartbeats 4000000
namespace L2
open PySem PySem.Spec PyProof.Rows
section
variable {prog : Program} {w : World} {A : Around} {E : Value → Shared → Prop} {s : Shared} {a₀ : Array Keyed} {ρ : Keyed → Int} {k0 : SortKind}
/-- runs beside each other, each sorted -/
def RunsOk (ρ : Keyed → Int) (xs : Array Keyed) : Nat → List (Nat × Nat × Nat) → Nat → Prop
  | s, [], e => s = e
  | s, u :: r, e => u.1 = s ∧ 1 ≤ u.2.1 ∧ SortedIn ρ xs s (s + u.2.1) ∧ RunsOk ρ xs (s + u.2.1) r e
theorem RunsOk.app {xs : Array Keyed} : ∀ {p q : List (Nat × Nat × Nat)} {s e : Nat}, RunsOk ρ xs s (p ++ q) e ↔ ∃ m, RunsOk ρ xs s p m ∧ RunsOk ρ xs m q e
  | [], q, s, e => ⟨fun h => ⟨s, rfl, h⟩, fun ⟨m, h1, h2⟩ => by cases h1; exact h2⟩
  | u :: p, q, s, e => by
    constructor
    · rintro ⟨a, b, c, d⟩
      obtain ⟨m, h1, h2⟩ := RunsOk.app.mp d
      exact ⟨m, ⟨a, b, c, h1⟩, h2⟩
    · rintro ⟨m, ⟨a, b, c, d⟩, h2⟩
      exact ⟨a, b, c, RunsOk.app.mpr ⟨m, d, h2⟩⟩
theorem RunsOk.le {xs : Array Keyed} : ∀ {p : List (Nat × Nat × Nat)} {s e : Nat}, RunsOk ρ xs s p e → s + p.length ≤ e
  | [], s, e, h => by cases h; simp
  | u :: p, s, e, ⟨a, b, c, d⟩ => by have := d.le; simp; omega
theorem RunsOk.congr {xs ys : Array Keyed} : ∀ {p : List (Nat × Nat × Nat)} {s e : Nat}, (∀ j, s ≤ j → j < e → ys[j]? = xs[j]?) → RunsOk ρ xs s p e → RunsOk ρ ys s p e
  | [], s, e, _, h => h
  | u :: p, s, e, hk, ⟨a, b, c, d⟩ => by
    have hl := d.le
    refine ⟨a, b, fun i j i1 i2 i3 => ?_, d.congr fun j h1 h2 => hk j (by omega) h2⟩
    have e1 : R ρ ys i = R ρ xs i := by unfold R; rw [hk i i1 (by omega)]
    have e2 : R ρ ys j = R ρ xs j := by unfold R; rw [hk j (by omega) (by omega)]
    rw [e1, e2]
    exact c i j i1 i2 i3
theorem two_at {α : Type} {p : List α} {i : Nat} (h : i + 1 < p.length) : ∃ l u v r, p = l ++ u :: v :: r ∧ l.length = i := by
  refine ⟨p.take i, p[i], p[i + 1], p.drop (i + 2), ?_, by simp; omega⟩
  rw [← List.drop_eq_getElem_cons h, ← List.drop_eq_getElem_cons (by omega), List.take_append_drop]
theorem wpS_mergeI (hL : LtBy prog w A s k0 ρ a₀) {st : SortSt} (hB : SB a₀ k0 st) {i e : Nat} {Q : Bool → SortSt → Prop} (hr : RunsOk ρ (arrOf st) 0 (pendingOf st).toList e) (he : e ≤ a₀.size) (hi : i + 1 < (pendingOf st).size)
    (h : ∀ st', SB a₀ k0 st' → RunsOk ρ (arrOf st') 0 (pendingOf st').toList e → (pendingOf st').size + 1 = (pendingOf st).size → (∀ j, e ≤ j → (arrOf st')[j]? = (arrOf st)[j]?) → Q true st') : wpS (model prog w) A E s (mergeAt' i) Q st := by
  obtain ⟨l, ⟨sa, na, pw⟩, ⟨sb, nb, pw2⟩, r, hp, hl⟩ := two_at (p := (pendingOf st).toList) (i := i) (by simpa using hi)
  have hr0 := hr
  rw [hp] at hr
  obtain ⟨m, r1, ⟨a1, a2, a3, b1, b2, b3, r2⟩⟩ := RunsOk.app.mp hr
  simp only at a1 a2 a3 b1 b2 b3 r2
  subst a1
  subst b1
  have hle := r2.le
  have e1 : (pendingOf st)[i]? = some (sa, na, pw) := by
    rw [← Array.getElem?_toList, hp, List.getElem?_append_right (by omega), hl, Nat.sub_self]; rfl
  have e2 : (pendingOf st)[i + 1]? = some (sa + na, nb, pw2) := by
    rw [← Array.getElem?_toList, hp, List.getElem?_append_right (by omega), hl, show i + 1 - i = 1 by omega]; rfl
  refine wpS_mergeAt hL hB e1 e2 a2 b2 (by omega) a3 b3 fun st' c1 c2 c3 c4 c5 c6 => ?_
  have hpl : (pendingOf st').toList = l ++ (sa, na + nb, pw) :: r := by
    rw [c3, Array.toList_eraseIdxIfInBounds, Array.toList_setIfInBounds, hp, List.set_append_right _ _ (by omega), hl, Nat.sub_self, List.set_cons_zero, List.eraseIdx_append_of_length_le (by omega), hl, show i + 1 - i = 1 by omega]
    rfl
  have hsz : (pendingOf st').size + 1 = (pendingOf st).size := by
    have x1 := congrArg List.length hpl
    have x2 := congrArg List.length hp
    rw [Array.length_toList, List.length_append, List.length_cons] at x1 x2
    rw [List.length_cons] at x2
    omega
  refine h st' ⟨c4.trans hB.pm, c1.trans hB.kd, c2⟩ ?_ hsz fun j hj => c5 j (by omega)
  rw [hpl]
  refine RunsOk.app.mpr ⟨sa, r1.congr fun j _ h2 => c5 j (.inl h2), rfl, show 1 ≤ na + nb by omega, ?_, ?_⟩
  · rw [← Nat.add_assoc]; exact c6
  · rw [← Nat.add_assoc]; exact r2.congr fun j h1 _ => c5 j (.inr h1)
theorem ite_lt {c : Prop} [Decidable c] {p q n : Nat} (h1 : p + 1 < n) (h2 : q + 1 < n) : (if c then p else q) + 1 < n := by split <;> assumption
theorem RunsOk.snoc {xs : Array Keyed} {p : List (Nat × Nat × Nat)} {s m n x : Nat} (h : RunsOk ρ xs s p m) (hn : 1 ≤ n) (hs : SortedIn ρ xs m (m + n)) : RunsOk ρ xs s (p ++ [(m, n, x)]) (m + n) :=
  RunsOk.app.mpr ⟨m, h, rfl, hn, hs, rfl⟩
/-- a run's own number does not count -/
theorem RunsOk.mark {xs : Array Keyed} {p : Array (Nat × Nat × Nat)} {s e pw k : Nat} (h : RunsOk ρ xs s p.toList e) : RunsOk ρ xs s (p.modify k fun u => (u.1, u.2.1, pw)).toList e := by
  have go : ∀ (p : List (Nat × Nat × Nat)) (k s : Nat), RunsOk ρ xs s p e → RunsOk ρ xs s (p.modify k fun u => (u.1, u.2.1, pw)) e := by
    intro p
    induction p with
    | nil => intro k s h; simpa using h
    | cons u p ih =>
      intro k s h
      obtain ⟨a, b, c, d⟩ := h
      cases k with
      | zero => exact ⟨a, b, c, d⟩
      | succ k => exact ⟨a, b, c, ih k _ d⟩
  rw [Array.toList_modify]
  exact go _ _ _ h
theorem wpS_sortR (hL : LtBy prog w A s k0 ρ a₀) {st : SortSt} {Q : Unit → SortSt → Prop} (hB : SB a₀ k0 st) (hp : pendingOf st = #[]) (h2 : 2 ≤ a₀.size)
    (h : ∀ st', SB a₀ k0 st' → SortedIn ρ (arrOf st') 0 a₀.size → Q () st') : wpS (model prog w) A E s sortRuns' Q st := by
  rw [sortRuns'_eq]
  refine wpS_bind (wpS_get ?_)
  dsimp only
  simp only [hB.size]
  generalize minRun' a₀.size a₀.size 0 = mr
  refine wpS_bind (wpS_mono (wpS_forRange (I := fun x c st' => ∃ lo, c = (none, lo) ∧ SB a₀ k0 st' ∧ RunsOk ρ (arrOf st') 0 (pendingOf st').toList lo ∧ lo ≤ a₀.size ∧ x ≤ lo)
    (Q := fun c st' => c = (none, a₀.size) ∧ SB a₀ k0 st' ∧ RunsOk ρ (arrOf st') 0 (pendingOf st').toList a₀.size) ?step ?fin ⟨0, rfl, hB, by rw [hp]; rfl, by omega, by omega⟩) ?post)
  case fin =>
    rintro c st' ⟨lo, rfl, b, r, l1, l2⟩
    have : lo = a₀.size := by omega
    subst this
    exact ⟨rfl, b, r⟩
  case step =>
    rintro x c st' _ hx ⟨lo, rfl, b, r, l1, l2⟩
    dsimp only
    refine wpS_ite (fun g => ?_) (fun g => ?_)
    · have : lo = a₀.size := by omega
      subst this
      exact wpS_pure ⟨rfl, b, r⟩
    refine wpS_bind (wpS_countR hL (by omega) (by omega) b fun m st2 ch m1 m2 sm => ?_)
    have b2 := ch.sb b
    have r2 : RunsOk ρ (arrOf st2) 0 (pendingOf st2).toList lo := by
      rw [ch.pe]; exact r.congr fun j _ hj => ch.ke j (.inl hj)
    dsimp only
    refine wpS_ite (fun gm => ?_) (fun gm => ?_)
    · refine wpS_bind (wpS_lift (wpAny_rule ⟨rfl, ?_⟩))
      refine wpS_bind (wpS_binR hL (n := min (a₀.size - lo) mr) (by omega) (by omega) b2 sm fun st3 ch3 sm3 => ?_)
      simp only [Bool.not_true, Bool.false_eq_true, if_false]
      have b4 := ch3.sb b2
      have r4 : RunsOk ρ (arrOf st3) 0 (pendingOf st3).toList lo := by
        rw [ch3.pe]; exact r2.congr fun j _ hj => ch3.ke j (.inl hj)
      have n41 : 1 ≤ min (a₀.size - lo) mr := by omega
      have n42 : lo + min (a₀.size - lo) mr ≤ a₀.size := by omega
      have s4 := sm3
      generalize min (a₀.size - lo) mr = n4 at n41 n42 s4 ⊢
      generalize st3 = st4 at b4 r4 s4 ⊢
      refine wpS_bind (wpS_get ?_)
      cases hbk : (pendingOf st4).back? with
      | none =>
        dsimp only
        refine wpS_bind (wpS_modify (wpS_pure ⟨lo + n4, rfl, ⟨b4.pm, b4.kd, b4.fl⟩, ?_, by omega, by omega⟩))
        show RunsOk ρ (arrOf st4) 0 ((pendingOf st4).push (lo, n4, 0)).toList (lo + n4)
        rw [Array.toList_push]
        exact r4.snoc n41 s4
      | some u =>
        obtain ⟨u1, u2, u3⟩ := u
        dsimp only
        refine wpS_bind (wpS_mono (wpS_forRange (I := fun y c st' => c = (none, ()) ∧ SB a₀ k0 st' ∧ RunsOk ρ (arrOf st') 0 (pendingOf st').toList lo ∧ ∀ j, lo ≤ j → (arrOf st')[j]? = (arrOf st4)[j]?)
          (Q := fun c st' => c = (none, ()) ∧ SB a₀ k0 st' ∧ RunsOk ρ (arrOf st') 0 (pendingOf st').toList lo ∧ ∀ j, lo ≤ j → (arrOf st')[j]? = (arrOf st4)[j]?) ?_ (fun c st' hh => hh) ⟨rfl, b4, r4, fun _ _ => rfl⟩) ?_)
        · rintro y c st5 _ hy ⟨rfl, b5, r5, k5⟩
          refine wpS_bind (wpS_get ?_)
          by_cases hz : (pendingOf st5).size > 1
          · rw [if_pos hz]
            have hlt : (pendingOf st5).size - 2 < (pendingOf st5).size := by omega
            rw [Array.getElem?_eq_getElem hlt]
            generalize (pendingOf st5)[(pendingOf st5).size - 2] = v
            obtain ⟨v1, v2, v3⟩ := v
            dsimp only
            refine wpS_ite (fun _ => ?_) (fun _ => ?_)
            · exact wpS_pure ⟨rfl, b5, r5, k5⟩
            · refine wpS_bind (wpS_mergeI hL b5 r5 l1 (by omega) fun st6 b6 r6 _ k6 => ?_)
              simp only [Bool.not_true, Bool.false_eq_true, if_false]
              exact wpS_pure ⟨rfl, b6, r6, fun j hj => (k6 j hj).trans (k5 j hj)⟩
          · rw [if_neg hz]
            exact wpS_pure ⟨rfl, b5, r5, k5⟩
        · rintro c st5 ⟨rfl, b5, r5, k5⟩
          dsimp only
          refine wpS_bind (wpS_modify ?_)
          refine wpS_bind (wpS_modify (wpS_pure ⟨lo + n4, rfl, ⟨b5.pm, b5.kd, b5.fl⟩, ?_, by omega, by omega⟩))
          show RunsOk ρ (arrOf st5) 0 (((pendingOf st5).modify _ _).push (lo, n4, 0)).toList (lo + n4)
          rw [Array.toList_push]
          refine RunsOk.snoc r5.mark n41 fun i j i1 i2 i3 => ?_
          have e1 : R ρ (arrOf st5) i = R ρ (arrOf st4) i := by unfold R; rw [k5 i i1]
          have e2 : R ρ (arrOf st5) j = R ρ (arrOf st4) j := by unfold R; rw [k5 j (by omega)]
          rw [e1, e2]
          exact s4 i j i1 i2 i3
    · have b4 := b2
      have r4 := r2
      have n41 : 1 ≤ m := m1
      have n42 : lo + m ≤ a₀.size := by omega
      have s4 := sm
      generalize m = n4 at n41 n42 s4 ⊢
      generalize st2 = st4 at b4 r4 s4 ⊢
      refine wpS_bind (wpS_get ?_)
      cases hbk : (pendingOf st4).back? with
      | none =>
        dsimp only
        refine wpS_bind (wpS_modify (wpS_pure ⟨lo + n4, rfl, ⟨b4.pm, b4.kd, b4.fl⟩, ?_, by omega, by omega⟩))
        show RunsOk ρ (arrOf st4) 0 ((pendingOf st4).push (lo, n4, 0)).toList (lo + n4)
        rw [Array.toList_push]
        exact r4.snoc n41 s4
      | some u =>
        obtain ⟨u1, u2, u3⟩ := u
        dsimp only
        refine wpS_bind (wpS_mono (wpS_forRange (I := fun y c st' => c = (none, ()) ∧ SB a₀ k0 st' ∧ RunsOk ρ (arrOf st') 0 (pendingOf st').toList lo ∧ ∀ j, lo ≤ j → (arrOf st')[j]? = (arrOf st4)[j]?)
          (Q := fun c st' => c = (none, ()) ∧ SB a₀ k0 st' ∧ RunsOk ρ (arrOf st') 0 (pendingOf st').toList lo ∧ ∀ j, lo ≤ j → (arrOf st')[j]? = (arrOf st4)[j]?) ?_ (fun c st' hh => hh) ⟨rfl, b4, r4, fun _ _ => rfl⟩) ?_)
        · rintro y c st5 _ hy ⟨rfl, b5, r5, k5⟩
          refine wpS_bind (wpS_get ?_)
          by_cases hz : (pendingOf st5).size > 1
          · rw [if_pos hz]
            have hlt : (pendingOf st5).size - 2 < (pendingOf st5).size := by omega
            rw [Array.getElem?_eq_getElem hlt]
            generalize (pendingOf st5)[(pendingOf st5).size - 2] = v
            obtain ⟨v1, v2, v3⟩ := v
            dsimp only
            refine wpS_ite (fun _ => ?_) (fun _ => ?_)
            · exact wpS_pure ⟨rfl, b5, r5, k5⟩
            · refine wpS_bind (wpS_mergeI hL b5 r5 l1 (by omega) fun st6 b6 r6 _ k6 => ?_)
              simp only [Bool.not_true, Bool.false_eq_true, if_false]
              exact wpS_pure ⟨rfl, b6, r6, fun j hj => (k6 j hj).trans (k5 j hj)⟩
          · rw [if_neg hz]
            exact wpS_pure ⟨rfl, b5, r5, k5⟩
        · rintro c st5 ⟨rfl, b5, r5, k5⟩
          dsimp only
          refine wpS_bind (wpS_modify ?_)
          refine wpS_bind (wpS_modify (wpS_pure ⟨lo + n4, rfl, ⟨b5.pm, b5.kd, b5.fl⟩, ?_, by omega, by omega⟩))
          show RunsOk ρ (arrOf st5) 0 (((pendingOf st5).modify _ _).push (lo, n4, 0)).toList (lo + n4)
          rw [Array.toList_push]
          refine RunsOk.snoc r5.mark n41 fun i j i1 i2 i3 => ?_
          have e1 : R ρ (arrOf st5) i = R ρ (arrOf st4) i := by unfold R; rw [k5 i i1]
          have e2 : R ρ (arrOf st5) j = R ρ (arrOf st4) j := by unfold R; rw [k5 j (by omega)]
          rw [e1, e2]
          exact s4 i j i1 i2 i3
  case post =>
    rintro c st' ⟨rfl, b, r⟩
    dsimp only
    have hle := r.le
    refine wpS_bind (wpS_mono (wpS_forRange (I := fun x c st' => c = (none, ()) ∧ SB a₀ k0 st' ∧ RunsOk ρ (arrOf st') 0 (pendingOf st').toList a₀.size ∧ (pendingOf st').size + x ≤ a₀.size)
      (Q := fun c st' => c = (none, ()) ∧ SB a₀ k0 st' ∧ RunsOk ρ (arrOf st') 0 (pendingOf st').toList a₀.size ∧ (pendingOf st').size ≤ 1) ?_ ?_ ⟨rfl, b, r, by rw [Array.length_toList] at hle; omega⟩) ?_)
    · rintro x c st5 _ hx ⟨rfl, b5, r5, k5⟩
      refine wpS_bind (wpS_get ?_)
      refine wpS_ite (fun g => ?_) (fun g => ?_)
      · exact wpS_pure ⟨rfl, b5, r5, g⟩
      · refine wpS_bind (wpS_mergeI hL b5 r5 (Nat.le_refl _) (ite_lt (by omega) (by omega)) fun st6 b6 r6 z6 _ => ?_)
        simp only [Bool.not_true, Bool.false_eq_true, if_false]
        exact wpS_pure ⟨rfl, b6, r6, by omega⟩
    · rintro c st5 ⟨rfl, b5, r5, k5⟩
      exact ⟨rfl, b5, r5, by omega⟩
    · rintro c st5 ⟨rfl, b5, r5, k5⟩
      dsimp only
      refine wpS_pure (h st5 b5 ?_)
      cases hl : (pendingOf st5).toList with
      | nil =>
        rw [hl] at r5
        have : 0 = a₀.size := r5
        omega
      | cons u l =>
        rw [hl] at r5
        obtain ⟨u1, u2, u3, u4⟩ := r5
        have hl0 : l = [] := by
          have := congrArg List.length hl
          rw [Array.length_toList, List.length_cons] at this
          exact List.eq_nil_of_length_eq_zero (by omega)
        subst hl0
        have e : 0 + u.2.1 = a₀.size := u4
        rw [e] at u3
        exact u3
end
end L2

set_option Elab.async false
set_option linter.all false
set_option maxRecDepth 100000
set_option maxHeartbeats 4000000
/-! sorted(list of ints) of any length -/
namespace L2
open PySem PySem.Spec PyProof.Rows
section
variable {prog : Program} {w : World} {A : Around} {E : Value → Shared → Prop} {s : Shared}
theorem ltBy_int {vs : List Value} {ns : List Int} (hI : IntsAre vs ns) : LtBy prog w A s oneType' (fun p => numOf p.1) (pairsOf vs) := by
  intro E st x y Q hk hx hy h
  obtain ⟨i, t, ex⟩ := hI.intKeys x hx
  obtain ⟨j, u, ey⟩ := hI.intKeys y hy
  rw [lt'_eq]
  refine wpS_bind (wpS_get ?_)
  rw [hk, keyLt'_oneType, ex, ey]
  have h' : Q (some (decide (numOf x.1 < numOf y.1))) st := h
  rw [ex, ey] at h'
  refine wpS_bind (wpS_lift (wpAny_attempt (oneLt_int ⟨rfl, ?_⟩)))
  exact wpS_pure h'
theorem runs_ints {vs : List Value} {ns : List Int} (hI : IntsAre vs ns) (h2 : 2 ≤ vs.length) : RunsTo prog w A vs s fun out => ∃ ns', IntsAre out ns' ∧ ns'.Perm ns ∧ ns'.Pairwise (· ≤ ·) := by
  intro E P hP
  match vs, hI, h2 with
  | v1 :: v2 :: vs, hI, _ =>
    rw [keyKind_ints hI, pure_bind]
    have hB : SB (pairsOf (v1 :: v2 :: vs)) oneType' (SortSt.mk' oneType' (pairsOf (v1 :: v2 :: vs)) #[] 7 none) := ⟨Array.Perm.refl _, rfl, rfl⟩
    have h := wpS_sortR (prog := prog) (w := w) (A := A) (E := E) (s := s) (ltBy_int hI) hB rfl (by rw [pairsOf_size]; simp) (Q := fun _ st => P st s) fun st' b hs => by
      have hs' : SortedTo (arrOf st') (pairsOf (v1 :: v2 :: vs)).size := fun i j hij hj => by
        have e : ∀ q, K (arrOf st') q = R (fun p => numOf p.1) (arrOf st') q := fun q => by
          unfold K R
          cases (arrOf st')[q]? <;> rfl
        rw [e, e]
        exact hs i j (Nat.zero_le _) hij hj
      obtain ⟨ns', a1, a2, a3⟩ := sorted_out hI b.pm hs'
      refine hP st' ((arrOf st').map (·.2)).toList b.fl (by first | exact (Array.toArray_toList).symm | (apply Array.ext'; simp)) ?_ ⟨ns', a1, a2, a3⟩
      have := b.size
      rw [pairsOf_size] at this
      simpa using this
    unfold wpS at h
    refine wpAny_bind (wpAny_mono h (fun r s' h' => ?_) fun _ _ e => e)
    obtain ⟨rfl, q⟩ := h'
    exact wpAny_pure q
end
section
variable {X : Cx}
def rSortI (K : PySem.W.Frag) : List V → Hp → VK → Prop := fun vs H Q => ∃ p ns, vs = [.ref p] ∧ SqL K H p (iL ns) ∧ 2 ≤ ns.length ∧ ∀ l ms, H l = none → ms.Perm ns → ms.Pairwise (· ≤ ·) → Q (.ref l) (upd H l (.lst (iL ms)))
theorem call_sortedIN : CallR X (.builtin "sorted") (rSortI X.K) := by
  intro pins s σ H xs us Q I r h
  obtain ⟨p, ns, rfl, hq, h2, q⟩ := h
  obtain ⟨u, rfl, ru⟩ := vals1 r
  cases ru
  obtain ⟨its, rv, pl, hz⟩ := I.list hq
  have hl : its.length = ns.length := by rw [← rv.length]; simp [iL]
  have hz' : its.length ≤ sizeLine := by rw [← rv.length]; exact hz
  refine sorted_raw (R := fun out => ∃ ns', IntsAre out ns' ∧ ns'.Perm ns ∧ ns'.Pairwise (· ≤ ·)) pl.isList (by omega) hz' (fun h' k => runs_ints (intsAre_of rv) (by omega)) fun out ho ⟨ns', a1, a2, a3⟩ => ?_
  obtain ⟨e, he⟩ := sortedAll_at s.heap its out.toArray
  have hn : H (s.heap.objs.size + 1) = none := I.hok.fresh (Nat.le_succ _)
  have I1 := I.kept (t' := s.toks) (h' := sortedAll s.heap its out.toArray) (fun _ _ => sortedAll_old)
  have a := I.aside (Nat.le_succ s.heap.objs.size) hn
  have v : Vals (iL ns') out := vals_ints a1
  have lz : (iL ns').length ≤ sizeLine := by
    have e1 := a2.length_eq
    have : (iL ns').length = ns'.length := by simp [iL]
    omega
  refine ⟨.ref (s.heap.objs.size + 1), upd H (s.heap.objs.size + 1) (.lst (iL ns')), I1.track hn a.ne a.ab a.cl a.pn ⟨lz, out, e, v, ?_⟩, rfl, q _ ns' hn a2 a3⟩
  simpa [seqObj] using he
/-- any length -/
def rSortA (K : PySem.W.Frag) : List V → Hp → VK → Prop := fun vs H Q => ∃ p ns, vs = [.ref p] ∧ SqL K H p (iL ns) ∧ ∀ l ms, H l = none → ms.Perm ns → ms.Pairwise (· ≤ ·) → Q (.ref l) (upd H l (.lst (iL ms)))
theorem call_sortedAN : CallR X (.builtin "sorted") (rSortA X.K) := by
  intro pins s σ H xs us Q I r ⟨p, ns, e, hq, q⟩
  by_cases h : 2 ≤ ns.length
  · exact call_sortedIN pins s σ H xs us Q I r ⟨p, ns, e, hq, h, q⟩
  · exact call_sortedN pins s σ H xs us Q I r ⟨p, ns, e, hq, by omega, q⟩
theorem call_sortedAK (K : PySem.W.Frag) (hK : X.K = K := by rfl) : CallR X (.builtin "sorted") (rSortA K) := by subst hK; exact call_sortedAN
end
theorem i_sortA {K : PySem.W.Frag} {H : Hp} {Q : VK} {p : Addr} {ns : List Int} (h : SqL K H p (iL ns)) (q : ∀ l ms, H l = none → ms.Perm ns → ms.Pairwise (· ≤ ·) → Q (.ref l) (upd H l (.lst (iL ms)))) : rSortA K [.ref p] H Q := ⟨p, ns, rfl, h, q⟩
end L2

set_option Elab.async false
set_option linter.all false
set_option maxRecDepth 100000
set_option maxHeartbeats 4000000
/-! What the pile of swings keeps: the places, the way, and that each swing is one. -/
namespace M
open PySem L2
def flat (prs : List (Int × Int)) : List Int := (prs.map fun p => [p.1, p.2]).flatten
theorem flat_snoc (prs : List (Int × Int)) (p : Int × Int) : flat (prs ++ [p]) = flat prs ++ [p.1, p.2] := by simp [flat]
def tot (prs : List (Int × Int)) : Int := (prs.map fun p => p.2 - p.1).sum
theorem tot_snoc (prs : List (Int × Int)) (p : Int × Int) : tot (prs ++ [p]) = tot prs + (p.2 - p.1) := by simp [tot]
theorem way_head (x y : Int) : ∀ (A L : List Int), wayL (x :: (A ++ y :: L)) = (match A with | [] => ab (y - x) | z :: _ => ab (z - x)) + wayL (A ++ y :: L)
  | [], L => rfl
  | z :: A, L => rfl
theorem way_four {a b c d : Int} {R : List Int} (h : (a ≤ c ∧ c ≤ b ∧ b ≤ d) ∨ (d ≤ b ∧ b ≤ c ∧ c ≤ a)) : ∀ A : List Int, wayL (A ++ a :: b :: c :: d :: R) = wayL (A ++ a :: d :: R) + 2 * (max b c - min b c)
  | [] => by
    simp only [List.nil_append]
    rw [wayL_two, wayL_two, wayL_two, wayL_two]
    unfold ab
    (repeat' split) <;> omega
  | x :: A => by
    have ih := way_four h (R := R) A
    simp only [List.cons_append]
    rw [way_head, way_head, ih]
    cases A <;> simp only <;> omega
/-- how the pile stands to the whole row -/
structure PI (T pile : List Int) (prs : List (Int × Int)) (r : List Int) : Prop where
  al : altL (pile ++ r)
  pm : T.Perm (pile ++ r ++ flat prs)
  lt : ∀ p ∈ prs, p.1 < p.2
  wy : wayL T = wayL (pile ++ r) + 2 * tot prs
theorem four_ofS {pile : List Int} (h : hasS pile = true) : ∃ A a b c d, pile = A ++ [a, b, c, d] ∧ ab (c - b) ≤ ab (b - a) ∧ ab (c - b) ≤ ab (d - c) := by
  have e := List.take_append_drop (pile.length - 4) pile
  unfold hasS at h
  match hq : pile.drop (pile.length - 4) with
  | [a, b, c, d] =>
    rw [hq] at e h
    simp only [isSw4, Bool.and_eq_true, decide_eq_true_eq] at h
    exact ⟨_, a, b, c, d, e.symm, h.1, h.2⟩
  | [] => rw [hq] at h; cases h
  | [_] => rw [hq] at h; cases h
  | [_, _] => rw [hq] at h; cases h
  | [_, _, _] => rw [hq] at h; cases h
  | _ :: _ :: _ :: _ :: _ :: _ => rw [hq] at h; cases h
theorem delS_4 (A : List Int) (a b c d : Int) : delS (A ++ [a, b, c, d]) = A ++ [a, d] := by
  unfold delS
  rw [show (A ++ [a, b, c, d]).length = A.length + 4 by simp, show A.length + 4 - 3 = A.length + 1 by omega, show A.length + 4 - 1 = A.length + 3 by omega]
  rw [List.take_append, List.drop_append]
  simp
  rw [List.take_of_length_le (by omega), List.drop_of_length_le (by omega)]
  simp
theorem prS_4 (A : List Int) (a b c d : Int) : prS (A ++ [a, b, c, d]) = (min b c, max b c) := by
  unfold prS
  rw [show (A ++ [a, b, c, d]).length = A.length + 4 by simp, show A.length + 4 - 3 = A.length + 1 by omega, show A.length + 4 - 2 = A.length + 2 by omega]
  simp [List.getD_eq_getElem?_getD, List.getElem?_append_right]
theorem PI.step {T A r : List Int} {a b c d : Int} {prs : List (Int × Int)} (h : PI T (A ++ [a, b, c, d]) prs r) (h1 : ab (c - b) ≤ ab (b - a)) (h2 : ab (c - b) ≤ ab (d - c)) : PI T (A ++ [a, d]) (prs ++ [(min b c, max b c)]) r := by
  have ha : altL (A ++ a :: b :: c :: d :: r) := by simpa using h.al
  have hf := four_up ha h1 h2
  refine ⟨by simpa using alt_out hf A (r := r) ha, ?_, fun p hp => ?_, ?_⟩
  · refine h.pm.trans ?_
    rw [flat_snoc]
    have e : ([min b c, max b c] : List Int).Perm [b, c] := by
      rcases Int.le_total b c with q | q
      · rw [Int.min_eq_left q, Int.max_eq_right q]
      · rw [Int.min_eq_right q, Int.max_eq_left q]; exact List.Perm.swap _ _ _
    refine List.Perm.symm ((List.Perm.append_left _ (List.Perm.append_left _ e)).trans ?_)
    rw [List.perm_iff_count]
    intro z
    simp only [List.count_append, List.count_cons, List.count_nil]
    omega
  · rcases List.mem_append.mp hp with z | z
    · exact h.lt p z
    · simp at z; subst z; simp only; omega
  · have hw := way_four (R := r) (show (a ≤ c ∧ c ≤ b ∧ b ≤ d) ∨ (d ≤ b ∧ b ≤ c ∧ c ≤ a) by omega) A
    have hwy := h.wy
    rw [tot_snoc]
    simp only [List.append_assoc, List.cons_append, List.nil_append] at hw hwy ⊢
    rw [hwy, hw]
    omega
theorem PI.whole {T r : List Int} : ∀ (n : Nat) {pile : List Int} {prs : List (Int × Int)}, PI T pile prs r → PI T (swW n pile prs).1 (swW n pile prs).2 r
  | 0, pile, prs, h => h
  | n + 1, pile, prs, h => by
    rw [swW]
    split
    · rename_i g
      obtain ⟨A, a, b, c, d, rfl, h1, h2⟩ := four_ofS g
      rw [delS_4, prS_4]
      exact PI.whole n (h.step h1 h2)
    · exact h
theorem PI.all {T : List Int} : ∀ (r : List Int) {pile : List Int} {prs : List (Int × Int)}, PI T pile prs r → PI T (swF r pile prs).1 (swF r pile prs).2 []
  | [], pile, prs, h => h
  | x :: r, pile, prs, h => by
    rw [swF]
    refine PI.all r (PI.whole _ ⟨?_, ?_, h.lt, ?_⟩)
    · simpa using h.al
    · simpa using h.pm
    · simpa using h.wy
/-- the swings of a turning row -/
theorem pile_all {T : List Int} (hT : altL T) : PI T (swF T [] []).1 (swF T [] []).2 [] := PI.all T ⟨hT, by simp [flat], by simp, by simp [tot]⟩
/-- two sorted rows of the same places are one row -/
theorem sorted_one : ∀ {a b : List Int}, a.Perm b → a.Pairwise (· ≤ ·) → b.Pairwise (· ≤ ·) → a = b := fun h h1 h2 => h.eq_of_pairwise (fun a b _ _ => Int.le_antisymm) h1 h2
end M

set_option Elab.async false
set_option linter.all false
set_option maxRecDepth 100000
set_option maxHeartbeats 4000000
namespace My
open PySem L2 M
local macro_rules | `(tactic| walk_at "s1") => `(tactic| first
  | with_reducible refine i_var rfl ?_
  | with_reducible refine i_I0 ?_
  | with_reducible refine iteF ?_
  | with_reducible refine iteNT ?_
  | with_reducible refine iteNF ?_
  | with_reducible refine iteT ?_
  | with_reducible refine i_truB ?_
  | with_reducible refine i_addI ?_
  | with_reducible refine i_U ?_
  | with_reducible refine i_isB ?_
  | with_reducible refine i_isNotB ?_
  | with_reducible refine i_eqI ?_
  | with_reducible refine i_neI ?_
  | with_reducible refine i_intB ?_
  | with_reducible refine i_abs ?_
  | with_reducible refine i_isiII ?_
  | with_reducible refine i_isiIB ?_
  | with_reducible refine i_isiIL ?_
  | with_reducible refine i_isiID ?_
  | with_reducible refine i_isiIT ?_
  | with_reducible refine i_isiBB ?_
  | with_reducible refine i_div (by omega) (by omega) ?_
  | with_reducible refine i_mod (by omega) ?_
  | with_reducible refine And.intro (szl (Nat.le_of_ble_eq_true rfl)) ?_
  | with_reducible refine ⟨_, rfl, ?_⟩)
local macro_rules | `(tactic| walk_at "un") => `(tactic| try dsimp only [tSeq, tAsg, gName, tOp, tUn, tTest, tB, tAnd, tOr, tNot, tAndV, tOrV, tNotV, tIf, tIfS, tRet, tRetN, tDrop, tNext, tCons, tNil, tCB, tCall, tMenu, tComp, iZip2, iEnum, tNoIf, tTru, tJoin, cxOf_K, tLst, tTup, tSl, tPart, tNoPart, tBM, tBM0, tChain, tC, tFor_eq, gTup, gLst, gCons, gNil, gSub, iList, iRng1, iRng2, iRng3, iTup, iZip3, tWhile, tDelS, tBreak, tCont, tRev, tAug, tPar, tNever, ipI, List.append_nil])
local macro_rules | `(tactic| walk_at "st") => `(tactic| (walk_at "un"; repeat walk_at "s1"))

def top (i : Nat) : Stmt := PySem.Challenge.pw_lugtrain_k10_swings_counted.main.body.getD i (.Pass ⟨0, 0, 0, 0⟩)
abbrev s_moves_of : Stmt := top 1
theorem sc_moves_of : FnScope ["row", "places", "place"] ["row"] (defScope s_moves_of) := ⟨rfl, rfl, rfl, by decide +kernel, rfl, by decide +kernel, by decide +kernel⟩
theorem bd_moves_of (kV doc pm : Value) (an : Option Addr) (cdv ct : Value) (us : List Value) (hl : us.length = (["row"] : List Str).length) : bindArgs (PySem.W.fnOf "moves_of" "moves_of" (defArgs s_moves_of) (defBody s_moves_of) (defScope s_moves_of) .none kV doc pm an cdv ct) ⟨us, []⟩ = pure ((["row"] : List Str).zip us) := match us, hl with | [_], _ => rfl
abbrev s_turning_of : Stmt := top 2
theorem sc_turning_of : FnScope ["row", "places", "turns"] ["row"] (defScope s_turning_of) := ⟨rfl, rfl, rfl, by decide +kernel, rfl, by decide +kernel, by decide +kernel⟩
theorem bd_turning_of (kV doc pm : Value) (an : Option Addr) (cdv ct : Value) (us : List Value) (hl : us.length = (["row"] : List Str).length) : bindArgs (PySem.W.fnOf "turning_of" "turning_of" (defArgs s_turning_of) (defBody s_turning_of) (defScope s_turning_of) .none kV doc pm an cdv ct) ⟨us, []⟩ = pure ((["row"] : List Str).zip us) := match us, hl with | [_], _ => rfl
abbrev s_has_swing : Stmt := top 4
theorem sc_has_swing : FnScope ["pile", "lowest", "lower", "upper", "topmost", "width"] ["pile"] (defScope s_has_swing) := ⟨rfl, rfl, rfl, by decide +kernel, rfl, by decide +kernel, by decide +kernel⟩
theorem bd_has_swing (kV doc pm : Value) (an : Option Addr) (cdv ct : Value) (us : List Value) (hl : us.length = (["pile"] : List Str).length) : bindArgs (PySem.W.fnOf "has_swing" "has_swing" (defArgs s_has_swing) (defBody s_has_swing) (defScope s_has_swing) .none kV doc pm an cdv ct) ⟨us, []⟩ = pure ((["pile"] : List Str).zip us) := match us, hl with | [_], _ => rfl
abbrev s_swings_of : Stmt := top 5
theorem sc_swings_of : FnScope ["row", "swings", "pile", "place"] ["row"] (defScope s_swings_of) := ⟨rfl, rfl, rfl, by decide +kernel, rfl, by decide +kernel, by decide +kernel⟩
theorem bd_swings_of (kV doc pm : Value) (an : Option Addr) (cdv ct : Value) (us : List Value) (hl : us.length = (["row"] : List Str).length) : bindArgs (PySem.W.fnOf "swings_of" "swings_of" (defArgs s_swings_of) (defBody s_swings_of) (defScope s_swings_of) .none kV doc pm an cdv ct) ⟨us, []⟩ = pure ((["row"] : List Str).zip us) := match us, hl with | [_], _ => rfl
abbrev s_law_own : Stmt := top 7
theorem sc_law_own : FnScope ["thing", "copy", "name"] ["thing"] (defScope s_law_own) := ⟨rfl, rfl, rfl, by decide +kernel, rfl, by decide +kernel, by decide +kernel⟩
theorem bd_law_own (kV doc pm : Value) (an : Option Addr) (cdv ct : Value) (us : List Value) (hl : us.length = (["thing"] : List Str).length) : bindArgs (PySem.W.fnOf "_law_own" "_law_own" (defArgs s_law_own) (defBody s_law_own) (defScope s_law_own) .none kV doc pm an cdv ct) ⟨us, []⟩ = pure ((["thing"] : List Str).zip us) := match us, hl with | [_], _ => rfl
abbrev s_law_so_swings_of : Stmt := top 8
theorem sc_law_so_swings_of : FnScope ["a", "own", "found", "good"] ["a"] (defScope s_law_so_swings_of) := ⟨rfl, rfl, rfl, by decide +kernel, rfl, by decide +kernel, by decide +kernel⟩
theorem bd_law_so_swings_of (kV doc pm : Value) (an : Option Addr) (cdv ct : Value) (us : List Value) (hl : us.length = (["a"] : List Str).length) : bindArgs (PySem.W.fnOf "_law_so_swings_of" "_law_so_swings_of" (defArgs s_law_so_swings_of) (defBody s_law_so_swings_of) (defScope s_law_so_swings_of) .none kV doc pm an cdv ct) ⟨us, []⟩ = pure ((["a"] : List Str).zip us) := match us, hl with | [_], _ => rfl
abbrev s_law_so_turning_of : Stmt := top 9
theorem sc_law_so_turning_of : FnScope ["a", "own", "found", "good"] ["a"] (defScope s_law_so_turning_of) := ⟨rfl, rfl, rfl, by decide +kernel, rfl, by decide +kernel, by decide +kernel⟩
theorem bd_law_so_turning_of (kV doc pm : Value) (an : Option Addr) (cdv ct : Value) (us : List Value) (hl : us.length = (["a"] : List Str).length) : bindArgs (PySem.W.fnOf "_law_so_turning_of" "_law_so_turning_of" (defArgs s_law_so_turning_of) (defBody s_law_so_turning_of) (defScope s_law_so_turning_of) .none kV doc pm an cdv ct) ⟨us, []⟩ = pure ((["a"] : List Str).zip us) := match us, hl with | [_], _ => rfl
abbrev s_law_cell_at : Stmt := top 10
theorem sc_law_cell_at : FnScope ["script", "k"] ["script", "k"] (defScope s_law_cell_at) := ⟨rfl, rfl, rfl, by decide +kernel, rfl, by decide +kernel, by decide +kernel⟩
theorem bd_law_cell_at (kV doc pm : Value) (an : Option Addr) (cdv ct : Value) (us : List Value) (hl : us.length = (["script", "k"] : List Str).length) : bindArgs (PySem.W.fnOf "_law_cell_at" "_law_cell_at" (defArgs s_law_cell_at) (defBody s_law_cell_at) (defScope s_law_cell_at) .none kV doc pm an cdv ct) ⟨us, []⟩ = pure ((["script", "k"] : List Str).zip us) := match us, hl with | [_, _], _ => rfl
abbrev s_law_draws : Stmt := top 11
theorem sc_law_draws : FnScope ["cell", "many", "base", "found", "rest", "stirred", "k"] ["cell", "many", "base"] (defScope s_law_draws) := ⟨rfl, rfl, rfl, by decide +kernel, rfl, by decide +kernel, by decide +kernel⟩
theorem bd_law_draws (kV doc pm : Value) (an : Option Addr) (cdv ct : Value) (us : List Value) (hl : us.length = (["cell", "many", "base"] : List Str).length) : bindArgs (PySem.W.fnOf "_law_draws" "_law_draws" (defArgs s_law_draws) (defBody s_law_draws) (defScope s_law_draws) .none kV doc pm an cdv ct) ⟨us, []⟩ = pure ((["cell", "many", "base"] : List Str).zip us) := match us, hl with | [_, _, _], _ => rfl
abbrev s_law_whole : Stmt := top 12
theorem sc_law_whole : FnScope ["found"] ["found"] (defScope s_law_whole) := ⟨rfl, rfl, rfl, by decide +kernel, rfl, by decide +kernel, by decide +kernel⟩
theorem bd_law_whole (kV doc pm : Value) (an : Option Addr) (cdv ct : Value) (us : List Value) (hl : us.length = (["found"] : List Str).length) : bindArgs (PySem.W.fnOf "_law_whole" "_law_whole" (defArgs s_law_whole) (defBody s_law_whole) (defScope s_law_whole) .none kV doc pm an cdv ct) ⟨us, []⟩ = pure ((["found"] : List Str).zip us) := match us, hl with | [_], _ => rfl
abbrev s_law_a_places : Stmt := top 13
theorem sc_law_a_places : FnScope ["found", "many"] ["found", "many"] (defScope s_law_a_places) := ⟨rfl, rfl, rfl, by decide +kernel, rfl, by decide +kernel, by decide +kernel⟩
theorem bd_law_a_places (kV doc pm : Value) (an : Option Addr) (cdv ct : Value) (us : List Value) (hl : us.length = (["found", "many"] : List Str).length) : bindArgs (PySem.W.fnOf "_law_a_places" "_law_a_places" (defArgs s_law_a_places) (defBody s_law_a_places) (defScope s_law_a_places) .none kV doc pm an cdv ct) ⟨us, []⟩ = pure ((["found", "many"] : List Str).zip us) := match us, hl with | [_, _], _ => rfl
abbrev s_law_wide_row : Stmt := top 14
theorem sc_law_wide_row : FnScope ["script", "at", "heads", "many", "far", "found", "pick", "place"] ["script", "at"] (defScope s_law_wide_row) := ⟨rfl, rfl, rfl, by decide +kernel, rfl, by decide +kernel, by decide +kernel⟩
theorem bd_law_wide_row (kV doc pm : Value) (an : Option Addr) (cdv ct : Value) (us : List Value) (hl : us.length = (["script", "at"] : List Str).length) : bindArgs (PySem.W.fnOf "_law_wide_row" "_law_wide_row" (defArgs s_law_wide_row) (defBody s_law_wide_row) (defScope s_law_wide_row) .none kV doc pm an cdv ct) ⟨us, []⟩ = pure ((["script", "at"] : List Str).zip us) := match us, hl with | [_, _], _ => rfl
abbrev s_law_wide : Stmt := top 15
theorem sc_law_wide : FnScope ["one", "other"] ["one", "other"] (defScope s_law_wide) := ⟨rfl, rfl, rfl, by decide +kernel, rfl, by decide +kernel, by decide +kernel⟩
theorem bd_law_wide (kV doc pm : Value) (an : Option Addr) (cdv ct : Value) (us : List Value) (hl : us.length = (["one", "other"] : List Str).length) : bindArgs (PySem.W.fnOf "_law_wide" "_law_wide" (defArgs s_law_wide) (defBody s_law_wide) (defScope s_law_wide) .none kV doc pm an cdv ct) ⟨us, []⟩ = pure ((["one", "other"] : List Str).zip us) := match us, hl with | [_, _], _ => rfl
abbrev s_law_a_pile : Stmt := top 16
theorem sc_law_a_pile : FnScope ["places", "pairs", "pile", "place", "inner", "wide"] ["places"] (defScope s_law_a_pile) := ⟨rfl, rfl, rfl, by decide +kernel, rfl, by decide +kernel, by decide +kernel⟩
theorem bd_law_a_pile (kV doc pm : Value) (an : Option Addr) (cdv ct : Value) (us : List Value) (hl : us.length = (["places"] : List Str).length) : bindArgs (PySem.W.fnOf "_law_a_pile" "_law_a_pile" (defArgs s_law_a_pile) (defBody s_law_a_pile) (defScope s_law_a_pile) .none kV doc pm an cdv ct) ⟨us, []⟩ = pure ((["places"] : List Str).zip us) := match us, hl with | [_], _ => rfl
abbrev s_law_a_far : Stmt := top 17
theorem sc_law_a_far : FnScope ["places"] ["places"] (defScope s_law_a_far) := ⟨rfl, rfl, rfl, by decide +kernel, rfl, by decide +kernel, by decide +kernel⟩
theorem bd_law_a_far (kV doc pm : Value) (an : Option Addr) (cdv ct : Value) (us : List Value) (hl : us.length = (["places"] : List Str).length) : bindArgs (PySem.W.fnOf "_law_a_far" "_law_a_far" (defArgs s_law_a_far) (defBody s_law_a_far) (defScope s_law_a_far) .none kV doc pm an cdv ct) ⟨us, []⟩ = pure ((["places"] : List Str).zip us) := match us, hl with | [_], _ => rfl
abbrev s_law : Stmt := top 18
theorem sc_law : FnScope ["script", "row", "handed", "found", "places", "pairs", "rest", "some", "total", "pair"] ["script"] (defScope s_law) := ⟨rfl, rfl, rfl, by decide +kernel, rfl, by decide +kernel, by decide +kernel⟩
structure Txt (mg : Str → Option Value) : Prop where
  z_abs : mg "abs" = none
  z_bool : mg "bool" = none
  z_dict : mg "dict" = none
  z_int : mg "int" = none
  z_isinstance : mg "isinstance" = none
  z_len : mg "len" = none
  z_list : mg "list" = none
  z_max : mg "max" = none
  z_min : mg "min" = none
  z_range : mg "range" = none
  z_sorted : mg "sorted" = none
  z_str : mg "str" = none
  z_sum : mg "sum" = none
  z_tuple : mg "tuple" = none
  z_zip : mg "zip" = none
section
variable {P : Program} {w : World} {K : PySem.W.Frag} {mg : Str → Option Value} {base : Heap}
/-- a new list of ints has come -/
structure NewI (H H' : Hp) (l : Addr) (xs : List Int) : Prop where
  fr : H l = none
  sm : Same H H'
  at_ : H' l = some (.lst (iL xs))
theorem NewI.app {H H' : Hp} {l : Addr} {xs : List Int} {x : Int} (N : NewI H H' l xs) : NewI H (upd H' l (.lst (iL xs ++ [V.int x]))) l (xs ++ [x]) :=
  ⟨N.fr, fun b o e => by rw [upd_ne (ne_of_none e N.fr)]; exact N.sm b o e, by rw [upd_same]; simp [iL]⟩
theorem NewI.more {H H' H2 : Hp} {l : Addr} {xs : List Int} (N : NewI H H' l xs) (s : Same H' H2) : NewI H H2 l xs := ⟨N.fr, N.sm.trans s, s _ _ N.at_⟩
def spLaw (K : PySem.W.Frag) : Sp := fun vs H Q _ => ∃ (a : Addr) (ns : List Int), vs = [.ref a] ∧ SqL K H a (ns.map V.int) ∧ ns.length ≤ 63 ∧ ∀ H', Q (.bl true) H'

def spCellAt (K : PySem.W.Frag) : Sp := fun vs H Q _ => ∃ (a : Addr) (ns : List Int) (k : Int), vs = [.ref a, .int k] ∧ SqL K H a (iL ns) ∧ 0 ≤ k ∧ ∀ v, Q (.int v) H
theorem ok_law_cell_at (T : Txt mg) (D : Def K mg "_law_cell_at" s_law_cell_at) : Callee P w K mg base "_law_cell_at" 1 (spCellAt K) := by
  refine D.ok sc_law_cell_at bd_law_cell_at (fun vs H Q E h => ?len) (fun f cdv A outer s H vs Q E hr h => ?body)
  case len => obtain ⟨a, ns, k, rfl, _⟩ := h; rfl
  case body =>
    obtain ⟨a, ns, kk, rfl, hS, h0, k⟩ := h
    have hu := hr.units
    refine ⟨_, (pss_cons (ps_if (pt_cmpR op_lt (pv 1) (pe_callB (call_lenK K) (by rfl) T.z_len bt_len (pa_cons (pv 0) pa_nil)) (nomark _))
 (pss_one (ps_ret (pe_ix (ix_K K) (pv 0) (pv 1) (by exact fun _ _ => rfl))))
 pss_nil)
 (pss_one (ps_ret pe_int))), ?_⟩
    dsimp only [tSeq, tAsg, gName, tOp, tUn, tTest, tB, tAnd, tOr, tNot, tAndV, tOrV, tNotV, tIf, tIfS, tRet, tRetN, tDrop, tNext, tCons, tNil, tCB, tCall, tMenu, tComp, iZip2, iEnum, tNoIf, tTru, tJoin, cxOf_K, tLst, tTup, tSl, tPart, tNoPart, tBM, tBM0, tChain, tC, tFor_eq, gTup, gLst, gCons, gNil, gSub, iList, iRng1, iRng2, iRng3, iTup, iZip3, tWhile, tDelS, tBreak, tCont, tRev, tAug, tPar, tNever, ipI, List.append_nil]
    walk_at "st"
    refine i_lenI hS ?_
    walk_at "st"
    refine i_if (fun g => ?_) (fun g => ?_)
    · walk_at "st"
      exact i_ixL hS h0 g (fun v _ _ => k v)
    · walk_at "st"
      exact k 0

def spDraws : Sp := fun vs H Q _ => ∃ cell many bas : Int, vs = [.int cell, .int many, .int bas] ∧ 0 ≤ many ∧ many ≤ 5000 ∧ 0 < bas ∧ bas < 1073741824 ∧
  ∀ l H' xs, NewI H H' l xs → (xs.length : Int) = many → (∀ x ∈ xs, 0 ≤ x ∧ x < bas) → Q (.ref l) H'
theorem ok_law_draws (T : Txt mg) (D : Def K mg "_law_draws" s_law_draws) : Callee P w K mg base "_law_draws" 1 spDraws := by
  refine D.ok sc_law_draws bd_law_draws (fun vs H Q E h => ?len) (fun f cdv A outer s H vs Q E hr h => ?body)
  case len => obtain ⟨p, a, x, rfl, _⟩ := h; rfl
  case body =>
    obtain ⟨cell, many, bas, rfl, h1, h2, h3, h4, k⟩ := h
    refine ⟨_, (pss_cons (ps_set (i := 3) sc_law_draws.nd rfl (Or.inl rfl) (pe_lst pa_nil))
 (pss_cons (ps_set (i := 4) sc_law_draws.nd rfl (Or.inl rfl) (pe_op op_mulP (pv 0) (pe_callTy call_intK (by rfl) T.z_int bt_int (pa_cons (pe_cmpR op_ge (pv 0) (pe_powK (r := 1000000000000000000) (by decide)) (nomark _)) pa_nil))))
 (pss_cons (ps_set (i := 5) sc_law_draws.nd rfl (Or.inl rfl) (pe_op op_mod (pv 0) pe_int))
 (pss_cons (ps_for PassesOwn.never rfl (pi_range1 (by rfl) T.z_range (pa_cons (pe_op op_addP (pv 1) pe_int) pa_nil)) (pg_name (i := 6) sc_law_draws.nd rfl (Or.inl rfl))
 (pss_cons (ps_set (i := 5) sc_law_draws.nd rfl (Or.inl rfl) (pe_op op_mod (pe_op op_addP (pe_op op_addP (pe_op op_addP (pe_op op_mulP (pv 5) (pv 5)) (pe_op op_mulP pe_int (pv 5))) (pv 6)) pe_int) pe_int))
 (pss_one (ps_if (PW.pt (pw_and (pt_cmpR op_gt (pv 6) pe_int (nomark _)) (pw_and1 (pt_cmpR op_gt (pv 4) pe_int (nomark _)))))
 (pss_cons (ps_expr (pe_bmK K PySem.F.plainAttrs_list PySem.F.slot_list_append PySem.F.type_list_append mt_append (pv 3) (pa_cons (pe_op op_mod (pv 4) (pv 2)) pa_nil)))
 (pss_one (ps_set (i := 4) sc_law_draws.nd rfl (Or.inl rfl) (pe_op op_fdiv (pv 4) (pv 2)))))
 (pss_one (ps_if (pt_cmpR op_gt (pv 6) pe_int (nomark _))
 (pss_one (ps_expr (pe_bmK K PySem.F.plainAttrs_list PySem.F.slot_list_append PySem.F.type_list_append mt_append (pv 3) (pa_cons (pe_op op_mod (pe_op op_fdiv (pv 5) pe_int) (pv 2)) pa_nil))))
 pss_nil))))))
 (pss_one (ps_ret (pv 3))))))), ?_⟩
    dsimp only [tSeq, tAsg, gName, tOp, tUn, tTest, tB, tAnd, tOr, tNot, tAndV, tOrV, tNotV, tIf, tIfS, tRet, tRetN, tDrop, tNext, tCons, tNil, tCB, tCall, tMenu, tComp, iZip2, iEnum, tNoIf, tTru, tJoin, cxOf_K, tLst, tTup, tSl, tPart, tNoPart, tBM, tBM0, tChain, tC, tFor_eq, gTup, gLst, gCons, gNil, gSub, iList, iRng1, iRng2, iRng3, iTup, iZip3, tWhile, tDelS, tBreak, tCont, tRev, tAug, tPar, tNever, ipI, List.append_nil]
    refine ⟨szl (by decide), fun l hl => ?_⟩
    walk_at "st"
    refine i_mulI (cmul_r ?_ ?_) ?_
    · split <;> decide
    · split <;> decide
    generalize cell * _ = rest
    walk_at "st"
    have hst0 : 0 ≤ cell % 2305843009213693951 := Int.emod_nonneg _ (by decide)
    have hst1 : cell % 2305843009213693951 < 2305843009213693951 := Int.emod_lt_of_pos _ (by decide)
    generalize cell % 2305843009213693951 = stirred at *
    refine ⟨by omega, by omega, lp_range (fun i σ H2 => ∃ (rest stirred : Int) (kk : Option V) (xs : List Int), σ = [some (.int cell), some (.int many), some (.int bas), some (.ref l), some (.int rest), some (.int stirred), kk] ∧
      0 ≤ stirred ∧ stirred < 2305843009213693951 ∧ NewI H H2 l xs ∧ xs.length = i - 3 ∧ ∀ x ∈ xs, 0 ≤ x ∧ x < bas) ?_ ?_ ?_⟩
    · exact ⟨rest, stirred, none, [], rfl, hst0, hst1, ⟨hl, same_upd hl, upd_same⟩, rfl, by simp⟩
    · rintro i σ H2 hi ⟨rest, stirred, kk, xs, rfl, s0, s1, N, hx, hb⟩
      walk_at "st"
      refine i_mulI (cmul_l (by omega) (by omega)) ?_
      walk_at "st"
      refine i_mulI (cmul_l (by decide) (by decide)) ?_
      walk_at "st"
      have hst0 := Int.emod_nonneg (stirred * stirred + 48271 * stirred + (0 + (i : Int)) + 1) (show (2305843009213693951 : Int) ≠ 0 by decide)
      have hst1 := Int.emod_lt_of_pos (stirred * stirred + 48271 * stirred + (0 + (i : Int)) + 1) (show (0 : Int) < 2305843009213693951 by decide)
      generalize (stirred * stirred + 48271 * stirred + (0 + (i : Int)) + 1) % 2305843009213693951 = stirred2 at *
      have app : ∀ v, 3 ≤ i → 0 ≤ v → v < bas → ∀ rest2, ∃ (rest stirred : Int) (kk : Option V) (ys : List Int), [some (V.int cell), some (.int many), some (.int bas), some (.ref l), some (.int rest2), some (.int stirred2), some (V.int (0 + (i : Int)))] = [some (.int cell), some (.int many), some (.int bas), some (.ref l), some (.int rest), some (.int stirred), kk] ∧
        0 ≤ stirred ∧ stirred < 2305843009213693951 ∧ NewI H (upd H2 l (.lst (iL xs ++ [V.int v]))) l ys ∧ ys.length = i + 1 - 3 ∧ ∀ x ∈ ys, 0 ≤ x ∧ x < bas := by
        intro v hi3 hv0 hv1 rest2
        refine ⟨rest2, stirred2, some (V.int (0 + (i : Int))), xs ++ [v], rfl, hst0, hst1, N.app, ?_, ?_⟩
        · simp; omega
        · intro x hxm
          rcases List.mem_append.mp hxm with z | z
          · exact hb x z
          · simp at z; subst z; exact ⟨hv0, hv1⟩
      have lenx : xs.length ≤ 100000 := by omega
      refine i_if (fun g1 => ?_) (fun g1 => ?_)
      · walk_at "st"
        refine i_if (fun g2 => ?_) (fun g2 => ?_)
        · walk_at "st"
          refine ⟨.inl ⟨rfl, _, SqL.of N.at_⟩, ?_⟩
          walk_at "st"
          refine i_app N.at_ (szlt (by simpa [iL] using lenx)) ?_
          walk_at "st"
          exact app _ (by omega) (Int.emod_nonneg _ (by omega)) (Int.emod_lt_of_pos _ h3) _
        · walk_at "st"
          refine i_if (fun g3 => ?_) (fun g3 => absurd g1 g3)
          walk_at "st"
          refine ⟨.inl ⟨rfl, _, SqL.of N.at_⟩, ?_⟩
          walk_at "st"
          refine i_app N.at_ (szlt (by simpa [iL] using lenx)) ?_
          exact app _ (by omega) (Int.emod_nonneg _ (by omega)) (Int.emod_lt_of_pos _ h3) _
      · walk_at "st"
        refine i_if (fun g3 => absurd g3 g1) (fun g3 => ?_)
        exact ⟨rest, stirred2, _, xs, rfl, hst0, hst1, N, by omega, hb⟩
    · rintro σ H2 ⟨rest, stirred, kk, xs, rfl, s0, s1, N, hx, hb⟩
      walk_at "st"
      exact k l H2 xs N (by omega) hb

def spWhole : Sp := fun vs H Q _ => ∃ i, vs = [.int i] ∧ Q (.bl true) H
theorem ok_law_whole (T : Txt mg) (D : Def K mg "_law_whole" s_law_whole) : Callee P w K mg base "_law_whole" 1 spWhole := by
  refine D.ok sc_law_whole bd_law_whole (fun vs H Q E h => ?len) (fun f cdv A outer s H vs Q E hr h => ?body)
  case len => obtain ⟨i, rfl, _⟩ := h; rfl
  case body =>
    obtain ⟨i, rfl, k⟩ := h
    refine ⟨_, (pss_one (ps_ret (pe_and (pe_callB (call_isinstanceK K) (by rfl) T.z_isinstance bt_isinstance (pa_cons (pv 0) (pa_cons (pe_bltn (by rfl) T.z_int bt_int (show RelV (.ty "int") _ from rfl)) pa_nil))) (pe_one (pe_not (pe_callB (call_isinstanceK K) (by rfl) T.z_isinstance bt_isinstance (pa_cons (pv 0) (pa_cons (pe_bltn (by rfl) T.z_bool bt_bool (show RelV (.ty "bool") _ from rfl)) pa_nil)))))))), ?_⟩
    dsimp only [tSeq, tAsg, gName, tOp, tUn, tTest, tB, tAnd, tOr, tNot, tAndV, tOrV, tNotV, tIf, tIfS, tRet, tRetN, tDrop, tNext, tCons, tNil, tCB, tCall, tMenu, tComp, iZip2, iEnum, tNoIf, tTru, tJoin, cxOf_K, tLst, tTup, tSl, tPart, tNoPart, tBM, tBM0, tChain, tC, tFor_eq, gTup, gLst, gCons, gNil, gSub, iList, iRng1, iRng2, iRng3, iTup, iZip3, tWhile, tDelS, tBreak, tCont, tRev, tAug, tPar, tNever, ipI, List.append_nil]
    walk_at "st"
    exact k

def spPlaces : Sp := fun vs H Q _ => ∃ (a : Addr) (ns : List Int) (many : Int), vs = [.ref a, .int many] ∧ H a = some (.lst (iL ns)) ∧ (ns.length : Int) = many ∧ ns.length ≤ 50000 ∧ ∀ H', Same H H' → Q (.bl true) H'
theorem ok_law_a_places (T : Txt mg) (D : Def K mg "_law_a_places" s_law_a_places) (C_law_whole : Callee P w K mg base "_law_whole" 1 spWhole) : Callee P w K mg base "_law_a_places" 2 spPlaces := by
  refine D.ok sc_law_a_places bd_law_a_places (fun vs H Q E h => ?len) (fun f cdv A outer s H vs Q E hr h => ?body)
  case len => obtain ⟨a, ns, k, rfl, _⟩ := h; rfl
  case body =>
    obtain ⟨a, ns, many, rfl, hS, hm, hbig, k⟩ := h
    have hu := hr.units
    refine ⟨_, (pss_cons (ps_if (PW.pt (pw_or (pt_not (pt_truthK K (pe_callB (call_isinstanceK K) (by rfl) T.z_isinstance bt_isinstance (pa_cons (pv 0) (pa_cons (pe_bltn (by rfl) T.z_list bt_list (show RelV (.ty "list") _ from rfl)) pa_nil))))) (pw_or1 (pt_cmpR (op_neK K hu) (pe_callB (call_lenK K) (by rfl) T.z_len bt_len (pa_cons (pv 0) pa_nil)) (pv 1) (nomark _)))))
 (pss_one (ps_ret pe_bl))
 pss_nil)
 (pss_one (ps_ret (pe_cmpR (op_eqK K hu) (by exact pe_comp (N := ["one"]) (fr := [none]) ⟨by rfl, by decide +kernel, by decide +kernel, (show ∀ y ∈ (_ : List (Str × NameKind)), y.2 = NameKind.free → (defScope s_law_a_places).names.lookup y.1 = some .cell ∨ (defScope s_law_a_places).names.lookup y.1 = some .free by decide +kernel), (fr_none fr_nil)⟩ (by rfl) (pi_listK K (pv 0)) (fun _ _ _ _ => (pg_name (i := 0) (show List.Nodup (["one"] : List Str) by decide) (by rfl) (by first | exact Or.inl rfl | exact Or.inr rfl))) (fun _ _ _ _ => (pifs_one (pt_not (pt_truthK K (pe_callN C_law_whole (hr.mono (by decide)) (by rfl) (pa_cons (pv 0) pa_nil)))))) (fun _ _ _ _ => (pv 0)) (gw_name (by rfl))) (pe_lst pa_nil) (nomark _))))), ?_⟩
    dsimp only [tSeq, tAsg, gName, tOp, tUn, tTest, tB, tAnd, tOr, tNot, tAndV, tOrV, tNotV, tIf, tIfS, tRet, tRetN, tDrop, tNext, tCons, tNil, tCB, tCall, tMenu, tComp, iZip2, iEnum, tNoIf, tTru, tJoin, cxOf_K, tLst, tTup, tSl, tPart, tNoPart, tBM, tBM0, tChain, tC, tFor_eq, gTup, gLst, gCons, gNil, gSub, iList, iRng1, iRng2, iRng3, iTup, iZip3, tWhile, tDelS, tBreak, tCont, tRev, tAug, tPar, tNever, ipI, List.append_nil]
    walk_at "st"
    refine i_isiLL hS ?_
    walk_at "st"
    refine i_lenI (SqL.of hS) ?_
    walk_at "st"
    refine i_ifn (fun g => absurd hm g) (fun _ => ?_)
    walk_at "st"
    refine ⟨⟨_, SqL.of hS⟩, cp_list (xs := iL ns) (fun i ys H2 => ys = [] ∧ Same H H2) ⟨rfl, Same.refl _⟩ ?_ (szlt (by simp [iL]; omega)) ?_ ?_⟩
    · rintro i ys H2 ⟨rfl, sm⟩
      exact ⟨SqL.of (sm _ _ hS), by simp⟩
    · rintro i x ys H2 hx ⟨rfl, sm⟩
      rw [List.getElem?_map] at hx
      obtain ⟨z, hz, rfl⟩ := Option.map_eq_some_iff.mp hx
      walk_at "st"
      refine ⟨z, rfl, ?_⟩
      walk_at "st"
      exact ⟨rfl, sm⟩
    · rintro l ys H2 ⟨rfl, sm⟩ hl
      walk_at "st"
      intro e he
      refine i_eqL (xs := []) (ys := []) (SqL.of (by rw [upd_ne (ne_of_none upd_same he), upd_same]; rfl)) (SqL.of upd_same) ?_
      exact k _ ((sm.trans (same_upd hl)).trans (same_upd he))

def spOwnI : Sp := fun vs H Q _ => ∃ i, vs = [.int i] ∧ Q (.int i) H
theorem ok_law_own0 (T : Txt mg) (D : Def K mg "_law_own" s_law_own) : Callee P w K mg base "_law_own" 1 spOwnI := by
  refine D.ok sc_law_own bd_law_own (fun vs H Q E h => ?len) (fun f cdv A outer s H vs Q E hr h => ?body)
  case len => obtain ⟨i, rfl, _⟩ := h; rfl
  case body =>
    obtain ⟨i, rfl, k⟩ := h
    have hu := hr.units
    refine ⟨_, (pss_cons (ps_if (pt_truthK K (pe_callB (call_isinstanceK K) (by rfl) T.z_isinstance bt_isinstance (pa_cons (pv 0) (pa_cons (pe_bltn (by rfl) T.z_list bt_list (show RelV (.ty "list") _ from rfl)) pa_nil))))
 pss_never
 pss_nil)
 (pss_cons (ps_if (pt_truthK K (pe_callB (call_isinstanceK K) (by rfl) T.z_isinstance bt_isinstance (pa_cons (pv 0) (pa_cons (pe_bltn (by rfl) T.z_dict bt_dict (show RelV (.ty "dict") _ from rfl)) pa_nil))))
 pss_never
 pss_nil)
 (pss_cons (ps_if (PW.pt (pw_and (pt_truthK K (pe_callB (call_isinstanceK K) (by rfl) T.z_isinstance bt_isinstance (pa_cons (pv 0) (pa_cons (pe_bltn (by rfl) T.z_tuple bt_tuple (show RelV (.ty "tuple") _ from rfl)) pa_nil)))) (pw_and1 (pt_not (PW.pt (pw_and (pt_cmpR op_gt (pe_callB (call_lenK K) (by rfl) T.z_len bt_len (pa_cons (pv 0) pa_nil)) pe_int (nomark _)) (pw_and1 (pt_truthK K (pe_callB (call_isinstanceK K) (by rfl) T.z_isinstance bt_isinstance (pa_cons (pe_ix (ix_K K) (pv 0) pe_int (by exact fun _ _ => rfl)) (pa_cons (pe_bltn (by rfl) T.z_str bt_str (show RelV (.ty "str") _ from rfl)) pa_nil)))))))))))
 pss_never
 pss_nil)
 (pss_one (ps_ret (pv 0)))))), ?_⟩
    dsimp only [tSeq, tAsg, gName, tOp, tUn, tTest, tB, tAnd, tOr, tNot, tAndV, tOrV, tNotV, tIf, tIfS, tRet, tRetN, tDrop, tNext, tCons, tNil, tCB, tCall, tMenu, tComp, iZip2, iEnum, tNoIf, tTru, tJoin, cxOf_K, tLst, tTup, tSl, tPart, tNoPart, tBM, tBM0, tChain, tC, tFor_eq, gTup, gLst, gCons, gNil, gSub, iList, iRng1, iRng2, iRng3, iTup, iZip3, tWhile, tDelS, tBreak, tCont, tRev, tAug, tPar, tNever, ipI, List.append_nil]
    walk_at "st"
    exact k
/-- what is handed in is handed on: ints; lists of ints as new lists -/
def OwnOf (H : Hp) (Q : VK) (v : V) : Prop := (∃ i, v = .int i ∧ Q (.int i) H) ∨ ∃ a ns, v = .ref a ∧ H a = some (.lst (iL ns)) ∧ ns.length ≤ 50000 ∧ ∀ l H', NewI H H' l ns → Q (.ref l) H'
def spOwn : Sp := fun vs H Q _ => ∃ v, vs = [v] ∧ OwnOf H Q v
theorem ok_law_own (T : Txt mg) (D : Def K mg "_law_own" s_law_own) : Callee P w K mg base "_law_own" 2 spOwn := by
  have C_law_own := ok_law_own0 (P := P) (w := w) (base := base) T D
  refine D.ok sc_law_own bd_law_own (fun vs H Q E h => ?len) (fun f cdv A outer s H vs Q E hr h => ?body)
  case len => obtain ⟨v, rfl, _⟩ := h; rfl
  case body =>
    obtain ⟨v, rfl, h⟩ := h
    have hu := hr.units
    refine ⟨_, (pss_cons (ps_if (pt_truthK K (pe_callB (call_isinstanceK K) (by rfl) T.z_isinstance bt_isinstance (pa_cons (pv 0) (pa_cons (pe_bltn (by rfl) T.z_list bt_list (show RelV (.ty "list") _ from rfl)) pa_nil))))
 (pss_one (ps_ret (by exact pe_comp (N := ["part"]) (fr := [none]) ⟨by rfl, by decide +kernel, by decide +kernel, (show ∀ y ∈ (_ : List (Str × NameKind)), y.2 = NameKind.free → (defScope s_law_own).names.lookup y.1 = some .cell ∨ (defScope s_law_own).names.lookup y.1 = some .free by decide +kernel), (fr_none fr_nil)⟩ (by rfl) (pi_listK K (pv 0)) (fun _ _ _ _ => (pg_name (i := 0) (show List.Nodup (["part"] : List Str) by decide) (by rfl) (by first | exact Or.inl rfl | exact Or.inr rfl))) (fun _ _ _ _ => pifs_nil) (fun _ _ _ _ => (pe_callN C_law_own (hr.mono (by decide)) (by rfl) (pa_cons (pv 0) pa_nil))) (gw_name (by rfl)))))
 pss_nil)
 (pss_cons (ps_if (pt_truthK K (pe_callB (call_isinstanceK K) (by rfl) T.z_isinstance bt_isinstance (pa_cons (pv 0) (pa_cons (pe_bltn (by rfl) T.z_dict bt_dict (show RelV (.ty "dict") _ from rfl)) pa_nil))))
 pss_never
 pss_nil)
 (pss_cons (ps_if (PW.pt (pw_and (pt_truthK K (pe_callB (call_isinstanceK K) (by rfl) T.z_isinstance bt_isinstance (pa_cons (pv 0) (pa_cons (pe_bltn (by rfl) T.z_tuple bt_tuple (show RelV (.ty "tuple") _ from rfl)) pa_nil)))) (pw_and1 (pt_not (PW.pt (pw_and (pt_cmpR op_gt (pe_callB (call_lenK K) (by rfl) T.z_len bt_len (pa_cons (pv 0) pa_nil)) pe_int (nomark _)) (pw_and1 (pt_truthK K (pe_callB (call_isinstanceK K) (by rfl) T.z_isinstance bt_isinstance (pa_cons (pe_ix (ix_K K) (pv 0) pe_int (by exact fun _ _ => rfl)) (pa_cons (pe_bltn (by rfl) T.z_str bt_str (show RelV (.ty "str") _ from rfl)) pa_nil)))))))))))
 pss_never
 pss_nil)
 (pss_one (ps_ret (pv 0)))))), ?_⟩
    dsimp only [tSeq, tAsg, gName, tOp, tUn, tTest, tB, tAnd, tOr, tNot, tAndV, tOrV, tNotV, tIf, tIfS, tRet, tRetN, tDrop, tNext, tCons, tNil, tCB, tCall, tMenu, tComp, iZip2, iEnum, tNoIf, tTru, tJoin, cxOf_K, tLst, tTup, tSl, tPart, tNoPart, tBM, tBM0, tChain, tC, tFor_eq, gTup, gLst, gCons, gNil, gSub, iList, iRng1, iRng2, iRng3, iTup, iZip3, tWhile, tDelS, tBreak, tCont, tRev, tAug, tPar, tNever, ipI, List.append_nil]
    rcases h with ⟨i, rfl, k⟩ | ⟨a, ns, rfl, hA, hlen, k⟩
    · walk_at "st"
      exact k
    · walk_at "st"
      refine i_isiLL hA ?_
      walk_at "st"
      refine ⟨⟨_, SqL.of hA⟩, cp_list (xs := iL ns) (fun i ys H2 => ys = iL (ns.take i) ∧ i ≤ ns.length ∧ H2 = H) ⟨by simp, Nat.zero_le _, rfl⟩ ?_ (szlt (by simp [iL]; omega)) ?_ ?_⟩
      · rintro i ys H2 ⟨rfl, hi, rfl⟩
        exact ⟨SqL.of hA, by simp [iL]; omega⟩
      · rintro i x ys H2 hx ⟨rfl, hi, rfl⟩
        rw [List.getElem?_map] at hx
        obtain ⟨z, hz, rfl⟩ := Option.map_eq_some_iff.mp hx
        have hil : i < ns.length := (List.getElem?_eq_some_iff.mp hz).1
        walk_at "st"
        refine ⟨z, rfl, ?_⟩
        refine ⟨?_, by omega, rfl⟩
        rw [List.take_add_one, hz]
        simp [iL]
      · rintro l ys H2 ⟨rfl, hi, rfl⟩ hl
        have e : (iL ns).length = ns.length := by simp [iL]
        rw [e, List.take_of_length_le (Nat.le_refl _)]
        exact k l _ ⟨hl, same_upd hl, upd_same⟩

--SPLIT
def spMoves (K : PySem.W.Frag) : Sp := fun vs H Q _ => ∃ (a : Addr) (row : List Int), vs = [.ref a] ∧ SqL K H a (iL row) ∧ row.length ≤ 50000 ∧ ∀ l H', NewI H H' l (moves row) → Q (.ref l) H'
theorem ifT {b : Bool} {A B : Prop} (e : b = true) (h : A) : if b = true then A else B := by rw [if_pos e]; exact h
theorem ifF {b : Bool} {A B : Prop} (e : b = false) (h : B) : if b = true then A else B := by rw [if_neg (by rw [e]; exact Bool.false_ne_true)]; exact h
theorem ok_moves_of (T : Txt mg) (D : Def K mg "moves_of" s_moves_of) : Callee P w K mg base "moves_of" 1 (spMoves K) := by
  refine D.ok sc_moves_of bd_moves_of (fun vs H Q E h => ?len) (fun f cdv A outer s H vs Q E hr h => ?body)
  case len => obtain ⟨a, row, rfl, _⟩ := h; rfl
  case body =>
    obtain ⟨a, row, rfl, hA, hrow, k⟩ := h
    have hu := hr.units
    refine ⟨_, (pss_cons (ps_set (i := 1) sc_moves_of.nd rfl (Or.inl rfl) (pe_lst pa_nil))
 (pss_cons (ps_for PassesOwn.never rfl (pi_listK K (pv 0)) (pg_name (i := 2) sc_moves_of.nd rfl (Or.inl rfl))
 (pss_one (ps_if (PW.pt (pw_or (pt_not (pt_truthK K (pv 1))) (pw_or1 (pt_cmpR (op_neK K hu) (pv 2) (pe_ix (ix_K K) (pv 1) (pe_negK (r := -1) (by decide)) (by exact fun _ _ => rfl)) (nomark _)))))
 (pss_one (ps_expr (pe_bmK K PySem.F.plainAttrs_list PySem.F.slot_list_append PySem.F.type_list_append mt_append (pv 1) (pa_cons (pv 2) pa_nil))))
 pss_nil)))
 (pss_one (ps_ret (pv 1))))), ?_⟩
    dsimp only [tSeq, tAsg, gName, tOp, tUn, tTest, tB, tAnd, tOr, tNot, tAndV, tOrV, tNotV, tIf, tIfS, tRet, tRetN, tDrop, tNext, tCons, tNil, tCB, tCall, tMenu, tComp, iZip2, iEnum, tNoIf, tTru, tJoin, cxOf_K, tLst, tTup, tSl, tPart, tNoPart, tBM, tBM0, tChain, tC, tFor_eq, gTup, gLst, gCons, gNil, gSub, iList, iRng1, iRng2, iRng3, iTup, iZip3, tWhile, tDelS, tBreak, tCont, tRev, tAug, tPar, tNever, ipI, List.append_nil]
    walk_at "st"
    intro l hl
    walk_at "st"
    have s1 : Same H (upd H l (.lst [])) := same_upd hl
    refine ⟨⟨_, s1.seq hA⟩, lp_ints (ns := row) (fun i σ H2 => ∃ (u : Option V) (dn : List Int), σ = [some (.ref a), some (.ref l), u] ∧ NewI H H2 l dn ∧ dn.length ≤ i ∧ ((dn = [] ∧ i = 0) ∨ ∃ dn' x, dn = dn' ++ [x] ∧ moves row = dn' ++ x :: mvFrom x (row.drop i))) ?_ ?_ ?_ ?_⟩
    · exact ⟨_, [], rfl, ⟨hl, s1, upd_same⟩, Nat.le_refl _, .inl ⟨rfl, rfl⟩⟩
    · rintro i σ H2 _ ⟨u, dn, rfl, N, hdl, _⟩
      exact N.sm.seq hA
    · rintro i x σ H2 hxi ⟨u, dn, rfl, N, hdl, hd⟩
      have hil : i < row.length := (List.getElem?_eq_some_iff.mp hxi).1
      walk_at "st"
      refine i_truL (SqL.of N.at_) ?_
      rcases hd with ⟨rfl, rfl⟩ | ⟨dn', x0, rfl, hm⟩
      · refine ifT (by rfl) ?_
        walk_at "st"
        refine ⟨.inl ⟨rfl, _, SqL.of N.at_⟩, ?_⟩
        walk_at "st"
        refine i_app N.at_ (szlt (by simp [iL])) ?_
        refine ⟨_, [x], rfl, N.app, by simp, .inr ⟨[], x, rfl, ?_⟩⟩
        have e : row = x :: row.drop (0 + 1) := by have := dropc hxi; simpa using this
        rw [e]; simp [moves]
      · refine ifF (by cases dn' <;> rfl) ?_
        walk_at "st"
        refine i_ixLast (xs := iL dn') (v := .int x0) (SqL.of (by rw [N.at_]; simp [iL])) ?_
        walk_at "st"
        rw [dropc hxi] at hm
        refine i_ifn (fun g => ?_) (fun g => ?_)
        · walk_at "st"
          refine ⟨.inl ⟨rfl, _, SqL.of N.at_⟩, ?_⟩
          walk_at "st"
          refine i_app N.at_ (szlt (by simp [iL] at hdl ⊢; omega)) ?_
          refine ⟨_, dn' ++ [x0] ++ [x], rfl, N.app, by simp at hdl ⊢; omega, .inr ⟨dn' ++ [x0], x, rfl, ?_⟩⟩
          rw [hm]; simp only [mvFrom]; rw [if_neg g]; simp
        · refine ⟨_, dn' ++ [x0], rfl, N, by omega, .inr ⟨dn', x0, rfl, ?_⟩⟩
          rw [hm]; simp only [mvFrom]; rw [if_pos g]
    · rintro σ H2 ⟨u, dn, rfl, N, hdl, hd⟩
      walk_at "st"
      have e : dn = moves row := by
        rcases hd with ⟨rfl, e⟩ | ⟨dn', x0, rfl, hm⟩
        · have : row = [] := List.length_eq_zero_iff.mp e
          rw [this]; rfl
        · rw [hm, List.drop_of_length_le (Nat.le_refl _)]; rfl
      rw [e] at N
      exact k l H2 N

def spTurning (K : PySem.W.Frag) : Sp := fun vs H Q _ => ∃ (a : Addr) (row : List Int), vs = [.ref a] ∧ SqL K H a (iL row) ∧ row.length ≤ 50000 ∧ ∀ l H', NewI H H' l (turn (moves row)) → Q (.ref l) H'
theorem moves_len (row : List Int) : (moves row).length ≤ row.length := by
  cases row with
  | nil => simp [moves]
  | cons x r => have := mv_length r x; simp [moves]; omega
theorem last_split : ∀ (xs : List Int) (a : Int), ∃ ini, a :: xs = ini ++ [lastOf a xs]
  | [], a => ⟨[], rfl⟩
  | x :: xs, a => by
    obtain ⟨ini, e⟩ := last_split xs x
    exact ⟨a :: ini, by simp only [lastOf]; rw [List.cons_append, ← e]⟩
theorem ok_turning_of (T : Txt mg) (D : Def K mg "turning_of" s_turning_of) (C_moves_of : Callee P w K mg base "moves_of" 1 (spMoves K)) : Callee P w K mg base "turning_of" 2 (spTurning K) := by
  refine D.ok sc_turning_of bd_turning_of (fun vs H Q E h => ?len) (fun f cdv A outer s H vs Q E hr h => ?body)
  case len => obtain ⟨a, row, rfl, _⟩ := h; rfl
  case body =>
    obtain ⟨a, row, rfl, hA, hrow, k⟩ := h
    have hu := hr.units
    refine ⟨_, (pss_cons (ps_set (i := 1) sc_turning_of.nd rfl (Or.inl rfl) (pe_callN C_moves_of (hr.mono (by decide)) (by rfl) (pa_cons (pv 0) pa_nil)))
 (pss_cons (ps_if (pt_cmpR op_lt (pe_callB (call_lenK K) (by rfl) T.z_len bt_len (pa_cons (pv 1) pa_nil)) pe_int (nomark _))
 (pss_one (ps_ret (pv 1)))
 pss_nil)
 (pss_cons (by exact ps_setC (i := 2) sc_turning_of.nd rfl (Or.inl rfl) (N := ["ahead", "here", "behind"]) (fr := [none, none, none]) ⟨by rfl, by decide +kernel, by decide +kernel, (show ∀ y ∈ (_ : List (Str × NameKind)), y.2 = NameKind.free → (defScope s_turning_of).names.lookup y.1 = some .cell ∨ (defScope s_turning_of).names.lookup y.1 = some .free by decide +kernel), (fr_none (fr_none (fr_none fr_nil)))⟩ (by rfl) (pi_zip3K K (by rfl) T.z_zip (pa_cons (pv 1) (pa_cons (pe_slice (sl_listK K) (pv 1) (po_some pe_int) po_none) (pa_cons (pe_slice (sl_listK K) (pv 1) (po_some pe_int) po_none) pa_nil)))) (fun _ _ _ _ => (pg_tupK K 3 (pgs_cons (pg_name (i := 0) (show List.Nodup (["ahead", "here", "behind"] : List Str) by decide) (by rfl) (by first | exact Or.inl rfl | exact Or.inr rfl)) (pgs_cons (pg_name (i := 1) (show List.Nodup (["ahead", "here", "behind"] : List Str) by decide) (by rfl) (by first | exact Or.inl rfl | exact Or.inr rfl)) (pgs_cons (pg_name (i := 2) (show List.Nodup (["ahead", "here", "behind"] : List Str) by decide) (by rfl) (by first | exact Or.inl rfl | exact Or.inr rfl)) pgs_nil))))) (fun _ _ _ _ => (pifs_one (pt_cmpR (op_eqK K hu) (pe_cmpR op_lt (pv 0) (pv 1) (nomark _)) (pe_cmpR op_lt (pv 2) (pv 1) (nomark _)) (nomark _)))) (fun _ _ _ _ => (pv 1)) (gw_tup (gws_cons (gw_name (by rfl)) (gws_cons (gw_name (by rfl)) (gws_cons (gw_name (by rfl)) gws_nil)))))
 (pss_one (ps_ret (pe_op op_addP (pe_op op_addP (pe_lst (pa_cons (pe_ix (ix_K K) (pv 1) pe_int (by exact fun _ _ => rfl)) pa_nil)) (pv 2)) (pe_lst (pa_cons (pe_ix (ix_K K) (pv 1) (pe_negK (r := -1) (by decide)) (by exact fun _ _ => rfl)) pa_nil)))))))), ?_⟩
    dsimp only [tSeq, tAsg, gName, tOp, tUn, tTest, tB, tAnd, tOr, tNot, tAndV, tOrV, tNotV, tIf, tIfS, tRet, tRetN, tDrop, tNext, tCons, tNil, tCB, tCall, tMenu, tComp, iZip2, iEnum, tNoIf, tTru, tJoin, cxOf_K, tLst, tTup, tSl, tPart, tNoPart, tBM, tBM0, tChain, tC, tFor_eq, gTup, gLst, gCons, gNil, gSub, iList, iRng1, iRng2, iRng3, iTup, iZip3, tWhile, tDelS, tBreak, tCont, tRev, tAug, tPar, tNever, ipI, List.append_nil]
    walk_at "st"
    refine ⟨a, row, rfl, hA, hrow, fun l H1 N => ?_⟩
    have hml := moves_len row
    walk_at "st"
    refine i_lenI (SqL.of N.at_) ?_
    walk_at "st"
    generalize moves row = m at *
    refine i_if (fun g => ?_) (fun g => ?_)
    · walk_at "st"
      have e : turn m = m := by
        match m, g with
        | [], _ => rfl
        | [x], _ => rfl
        | x :: y :: r, g => simp at g; omega
      rw [e] at k
      exact k l H1 N
    · obtain ⟨x0, y0, r, rfl⟩ : ∃ x0 y0 r, m = x0 :: y0 :: r := by
        match m, g with
        | [], g => simp at g
        | [x], g => simp at g
        | x :: y :: r, _ => exact ⟨x, y, r, rfl⟩
      generalize hm : x0 :: y0 :: r = m at *
      have hk : turn m = x0 :: tn x0 y0 r := by rw [← hm]; rfl
      have hml2 : m.length = r.length + 2 := by rw [← hm]; rfl
      walk_at "st"
      refine i_slFrom (SqL.of N.at_) (by decide) (fun p hp => ?_)
      have s2 : Same H1 _ := same_upd (o := .lst (iL (m.drop (1 : Int).toNat))) hp
      have e2 : upd H1 p (.lst (iL (m.drop (1 : Int).toNat))) p = some (.lst (iL (m.drop 1))) := upd_same
      generalize upd H1 p (.lst (iL (m.drop (1 : Int).toNat))) = H2 at *
      walk_at "st"
      refine i_slFrom (SqL.of (s2 _ _ N.at_)) (by decide) (fun p2 hp2 => ?_)
      have s3 : Same H2 _ := same_upd (o := .lst (iL (m.drop (2 : Int).toNat))) hp2
      have e3 : upd H2 p2 (.lst (iL (m.drop (2 : Int).toNat))) p2 = some (.lst (iL (m.drop 2))) := upd_same
      generalize upd H2 p2 (.lst (iL (m.drop (2 : Int).toNat))) = H3 at *
      have N3 := N.more (s2.trans s3)
      have e23 := s3 _ _ e2
      walk_at "st"
      refine ⟨_, _, _, rfl, ⟨_, SqL.of N3.at_⟩, ⟨_, SqL.of e23⟩, ⟨_, SqL.of e3⟩, cp_zip3 (xs := iL m) (ys := iL (m.drop 1)) (ws := iL (m.drop 2)) (fun i zs H4 => ∃ (ds : List Int) (x y : Int), zs = iL ds ∧ ds.length ≤ i ∧ Same H3 H4 ∧ m[i]? = some x ∧ m[i + 1]? = some y ∧ tn x0 y0 r = ds ++ tn x y (m.drop (i + 2))) ⟨[], x0, y0, rfl, Nat.le_refl _, Same.refl _, by rw [← hm]; rfl, by rw [← hm]; rfl, by rw [← hm]; rfl⟩ ?_ (szlt (by simp [iL]; omega)) ?_ ?_⟩
      · rintro i zs H4 ⟨ds, x, y, rfl, hdl, sm, _⟩
        exact ⟨SqL.of (sm _ _ N3.at_), SqL.of (sm _ _ e23), SqL.of (sm _ _ e3), by simp [iL]; omega⟩
      · rintro i x1 y1 z1 t zs H4 hx hy hz ⟨ds, x, y, rfl, hdl, sm, hmx, hmy, htn⟩ ht
        rw [List.getElem?_map] at hx hy hz
        obtain ⟨x2, hx2, rfl⟩ := Option.map_eq_some_iff.mp hx
        obtain ⟨y2, hy2, rfl⟩ := Option.map_eq_some_iff.mp hy
        obtain ⟨z2, hz2, rfl⟩ := Option.map_eq_some_iff.mp hz
        rw [List.getElem?_drop, Nat.add_comm] at hy2 hz2
        rw [hmx] at hx2
        cases hx2
        rw [hmy] at hy2
        cases hy2
        have hnext : tn x y (m.drop (i + 2)) = if decide (x < y) = decide (z2 < y) then y :: tn y z2 (m.drop (i + 1 + 2)) else tn y z2 (m.drop (i + 1 + 2)) := by
          rw [dropc hz2]; rfl
        walk_at "st"
        refine ⟨_, _, rfl, SqT.of upd_same, rfl, _, _, rfl, _, _, rfl, _, _, rfl, rfl, ?_⟩
        walk_at "st"
        refine i_eqB ?_
        walk_at "st"
        refine i_if (fun g2 => ?_) (fun g2 => ?_)
        · walk_at "st"
          rw [if_pos g2] at hnext
          refine ⟨ds ++ [y], y, z2, by simp [iL], by simp; omega, sm.trans (same_upd ht), hmy, hz2, ?_⟩
          rw [htn, hnext]; simp
        · rw [if_neg g2] at hnext
          refine ⟨ds, y, z2, rfl, by omega, sm.trans (same_upd ht), hmy, hz2, ?_⟩
          rw [htn, hnext]
      · rintro lt zs H4 ⟨ds, x, y, rfl, hdl, sm, hmx, hmy, htn⟩ hlt
        have hmin : min (iL m).length (min (iL (m.drop 1)).length (iL (m.drop 2)).length) = r.length := by simp [iL]; omega
        rw [hmin] at hdl hmx hmy htn
        rw [List.drop_of_length_le (by omega)] at htn
        have htn2 : tn x0 y0 r = ds ++ [y] := htn
        have s5 := sm.trans (same_upd (o := .lst (iL ds)) hlt)
        have e5 : upd H4 lt (.lst (iL ds)) lt = some (.lst (iL ds)) := upd_same
        generalize upd H4 lt (.lst (iL ds)) = H5 at *
        have N5 := N3.more s5
        walk_at "st"
        refine i_ixN (SqL.of N5.at_) (by decide) (v := .int x0) (by rw [← hm]; rfl) ?_
        walk_at "st"
        intro g1 hg1
        walk_at "st"
        refine i_addL (a := g1) (b := lt) (xs := [V.int x0]) (ys := iL ds) upd_same (same_upd hg1 _ _ e5) (by simp [iL]; exact szl (by omega)) (fun g2 hg2 => ?_)
        have s6 : Same H5 _ := (same_upd hg1).trans (same_upd (o := .lst ([V.int x0] ++ iL ds)) hg2)
        have e6 : upd (upd H5 g1 (.lst [V.int x0])) g2 (.lst ([V.int x0] ++ iL ds)) g2 = some (.lst (iL (x0 :: ds))) := by rw [upd_same]; rfl
        generalize upd (upd H5 g1 (.lst [V.int x0])) g2 (.lst ([V.int x0] ++ iL ds)) = H6 at *
        have N6 := N5.more s6
        obtain ⟨ini, hini⟩ : ∃ ini, m = ini ++ [y] := by
          obtain ⟨ini, q⟩ := last_split (y0 :: r) x0
          rw [hm] at q
          have hl := congrArg List.length q
          refine ⟨ini, ?_⟩
          have : m[r.length + 1]? = some (lastOf x0 (y0 :: r)) := by
            rw [q]
            have : ini.length = r.length + 1 := by simp at hl; omega
            rw [List.getElem?_append_right (by omega)]; simp [this]
          rw [hmy] at this
          cases this
          exact q
        walk_at "st"
        refine i_ixLast (xs := iL ini) (v := .int y) (SqL.of (by rw [N6.at_, hini]; simp [iL])) ?_
        walk_at "st"
        intro g3 hg3
        refine i_addL (a := g2) (b := g3) (xs := iL (x0 :: ds)) (ys := [V.int y]) (same_upd hg3 _ _ e6) upd_same (by simp [iL]; exact szl (by omega)) (fun g4 hg4 => ?_)
        have S : Same H _ := (N6.sm.trans (same_upd (o := .lst [V.int y]) hg3)).trans (same_upd (o := .lst (iL (x0 :: ds) ++ [V.int y])) hg4)
        rw [hk, htn2] at k
        exact k g4 _ ⟨(N6.sm.trans (same_upd hg3)).free hg4, S, by rw [upd_same]; simp [iL]⟩

--SPLIT
def spWide (K : PySem.W.Frag) : Sp := fun vs H Q _ => ∃ (a : Addr) (ns : List Int) (at_ : Int), vs = [.ref a, .int at_] ∧ SqL K H a (iL ns) ∧ 0 ≤ at_ ∧ ∀ l H' xs, NewI H H' l xs → xs.length ≤ 1898 → Q (.ref l) H'
theorem ok_law_wide_row (T : Txt mg) (D : Def K mg "_law_wide_row" s_law_wide_row) (C_law_draws : Callee P w K mg base "_law_draws" 1 spDraws) (C_law_cell_at : Callee P w K mg base "_law_cell_at" 1 (spCellAt K)) : Callee P w K mg base "_law_wide_row" 2 (spWide K) := by
  refine D.ok sc_law_wide_row bd_law_wide_row (fun vs H Q E h => ?len) (fun f cdv A outer s H vs Q E hr h => ?body)
  case len => obtain ⟨a, ns, at_, rfl, _⟩ := h; rfl
  case body =>
    obtain ⟨a, ns, at_, rfl, hS, h0, k⟩ := h
    refine ⟨_, (pss_cons (ps_set (i := 2) sc_law_wide_row.nd rfl (Or.inl rfl) (pe_callN C_law_draws (hr.mono (by decide)) (by rfl) (pa_cons (pe_callN C_law_cell_at (hr.mono (by decide)) (by rfl) (pa_cons (pv 0) (pa_cons (pv 1) pa_nil))) (pa_cons pe_int (pa_cons pe_int pa_nil)))))
 (pss_cons (ps_set (i := 3) sc_law_wide_row.nd rfl (Or.inl rfl) (pe_menu (pa_cons (pe_op op_mod (pe_ix (ix_K K) (pv 2) pe_int (by exact fun _ _ => rfl)) pe_int) (pa_cons (pe_op op_mod (pe_ix (ix_K K) (pv 2) pe_int (by exact fun _ _ => rfl)) pe_int) (pa_cons (pe_op op_addP pe_int (pe_op op_fdiv (pe_op op_mulP (pe_ix (ix_K K) (pv 2) pe_int (by exact fun _ _ => rfl)) pe_int) pe_int)) pa_nil))) (pe_menu (pa_cons pe_int (pa_cons pe_int (pa_cons pe_int (pa_cons pe_int pa_nil)))) (pe_op op_mod (pe_ix (ix_K K) (pv 2) pe_int (by exact fun _ _ => rfl)) pe_int) (by exact fun _ _ => rfl)) (by exact fun _ _ => rfl)))
 (pss_cons (ps_set (i := 4) sc_law_wide_row.nd rfl (Or.inl rfl) (pe_menu (pa_cons pe_int (pa_cons pe_int (pa_cons (pe_powK (r := 100000000000000000000) (by decide)) (pa_cons pe_int pa_nil)))) (pe_op op_mod (pe_ix (ix_K K) (pv 2) pe_int (by exact fun _ _ => rfl)) pe_int) (by exact fun _ _ => rfl)))
 (pss_cons (ps_set (i := 5) sc_law_wide_row.nd rfl (Or.inl rfl) (pe_lst pa_nil))
 (pss_cons (ps_for PassesOwn.never rfl (pi_listK K (pe_callN C_law_draws (hr.mono (by decide)) (by rfl) (pa_cons (pe_callN C_law_cell_at (hr.mono (by decide)) (by rfl) (pa_cons (pv 0) (pa_cons (pe_op op_addP (pv 1) pe_int) pa_nil))) (pa_cons (pv 3) (pa_cons (pe_powK (r := 1000000000) (by decide)) pa_nil))))) (pg_name (i := 6) sc_law_wide_row.nd rfl (Or.inl rfl))
 (pss_cons (ps_set (i := 7) sc_law_wide_row.nd rfl (Or.inl rfl) (pe_op op_sub (pe_op op_mod (pe_op op_mulP (pe_op op_fdiv (pv 6) pe_int) (pe_op op_addP (pe_powK (r := 10000000000000) (by decide)) pe_int)) (pe_op op_addP (pe_op op_mulP pe_int (pv 4)) pe_int)) (pv 4)))
 (pss_join (ps_if (pt_cmpR op_gt (pe_op op_mod (pv 6) pe_int) pe_int (nomark _))
 (pss_one (ps_set (i := 7) sc_law_wide_row.nd rfl (Or.inl rfl) (pe_op op_sub (pe_op op_mod (pe_op op_fdiv (pv 6) pe_int) (pe_op op_addP (pe_op op_mulP pe_int (pv 4)) pe_int)) (pv 4))))
 pss_nil)
 (pss_one (ps_expr (pe_bmK K PySem.F.plainAttrs_list PySem.F.slot_list_append PySem.F.type_list_append mt_append (pv 5) (pa_cons (pv 7) pa_nil)))))))
 (pss_one (ps_ret (pv 5)))))))), ?_⟩
    dsimp only [tSeq, tAsg, gName, tOp, tUn, tTest, tB, tAnd, tOr, tNot, tAndV, tOrV, tNotV, tIf, tIfS, tRet, tRetN, tDrop, tNext, tCons, tNil, tCB, tCall, tMenu, tComp, iZip2, iEnum, tNoIf, tTru, tJoin, cxOf_K, tLst, tTup, tSl, tPart, tNoPart, tBM, tBM0, tChain, tC, tFor_eq, gTup, gLst, gCons, gNil, gSub, iList, iRng1, iRng2, iRng3, iTup, iZip3, tWhile, tDelS, tBreak, tCont, tRev, tAug, tPar, tNever, ipI, List.append_nil]
    walk_at "st"
    refine ⟨a, ns, at_, rfl, hS, h0, fun c0 => ?_⟩
    walk_at "st"
    refine ⟨c0, 4, 1000, rfl, by decide, by decide, by decide, by decide, fun lh H1 pk N1 l1 b1 => ?_⟩
    walk_at "st"
    refine i_ixL (SqL.of N1.at_) (by omega) (by omega) (fun v0 q0 m0 => ?_)
    walk_at "st"
    refine i_ixL (SqL.of N1.at_) (by omega) (by omega) (fun v0' q0' m0' => ?_)
    walk_at "st"
    refine i_ixL (SqL.of N1.at_) (by omega) (by omega) (fun v0'' q0'' m0'' => ?_)
    have bb := b1 _ m0''
    have ba := b1 _ m0'
    have bc := b1 _ m0
    walk_at "st"
    refine i_mulI (cmul_r (by decide) (by decide)) ?_
    walk_at "st"
    refine i_ixL (SqL.of N1.at_) (by omega) (by omega) (fun v1 _ m1 => ?_)
    walk_at "st"
    refine i_menu4 (Int.emod_nonneg _ (by decide)) (Int.emod_lt_of_pos _ (by decide)) (fun z hz => ?_)
    walk_at "st"
    refine i_menu3 (by omega) (by omega) (fun many hmany => ?_)
    have hm1 : 0 ≤ many ∧ many ≤ 1898 := by
      have r1 := Int.emod_nonneg v0 (show (10 : Int) ≠ 0 by decide)
      have r2 := Int.emod_lt_of_pos v0 (show (0 : Int) < 10 by decide)
      have r3 := Int.emod_nonneg v0' (show (61 : Int) ≠ 0 by decide)
      have r4 := Int.emod_lt_of_pos v0' (show (0 : Int) < 61 by decide)
      omega
    clear hmany hz
    walk_at "st"
    refine i_ixL (SqL.of N1.at_) (by omega) (by omega) (fun v2 _ m2 => ?_)
    walk_at "st"
    refine i_menu4 (Int.emod_nonneg _ (by decide)) (Int.emod_lt_of_pos _ (by decide)) (fun far hfar => ?_)
    have hf : 0 ≤ far := by omega
    walk_at "st"
    intro l hl
    have s2 : Same H _ := N1.sm.trans (same_upd (o := .lst []) hl)
    have hlf : H l = none := N1.sm.free hl
    have e2 : upd H1 l (.lst []) l = some (.lst (iL [])) := upd_same
    generalize upd H1 l (.lst []) = H2 at *
    walk_at "st"
    refine ⟨a, ns, at_ + 1, rfl, s2.seq hS, by omega, fun c1 => ?_⟩
    walk_at "st"
    refine ⟨c1, many, 1000000000, rfl, by omega, by omega, by decide, by decide, fun lq H3 pk2 N3 l3 b3 => ?_⟩
    have hne : lq ≠ l := fun z => by have q := N3.fr; rw [z, e2] at q; cases q
    walk_at "st"
    refine ⟨⟨_, SqL.of N3.at_⟩, lp_ints (ns := pk2) (fun i σ H4 => ∃ (u1 u2 : Option V) (xs : List Int), σ = [some (.ref a), some (.int at_), some (.ref lh), some (.int many), some (.int far), some (.ref l), u1, u2] ∧ NewI H H4 l xs ∧ H4 lq = some (.lst (iL pk2)) ∧ xs.length = i) ?_ ?_ ?_ ?_⟩
    · exact ⟨_, _, [], rfl, ⟨hlf, s2.trans N3.sm, N3.sm _ _ e2⟩, N3.at_, rfl⟩
    · rintro i σ H4 _ ⟨u1, u2, xs, rfl, N, hq, hx⟩
      exact SqL.of hq
    · rintro i x σ H4 hxi ⟨u1, u2, xs, rfl, N, hq, hx⟩
      have hbx := b3 x (List.mem_of_getElem? hxi)
      have hil : i < pk2.length := (List.getElem?_eq_some_iff.mp hxi).1
      walk_at "st"
      refine i_mulI (cmul_r (by decide) (by decide)) ?_
      walk_at "st"
      refine i_mulI (cmul_l (by decide) (by decide)) ?_
      walk_at "st"
      refine ⟨fun σ H5 => ∃ pl : Int, σ = [some (.ref a), some (.int at_), some (.ref lh), some (.int many), some (.int far), some (.ref l), some (.int x), some (.int pl)] ∧ H4 = H5, ?_, ?_⟩
      · walk_at "st"
        refine i_if (fun g => ?_) (fun g => ?_)
        · walk_at "st"
          refine i_mulI (cmul_l (by decide) (by decide)) ?_
          walk_at "st"
          first | rfl | exact ⟨_, rfl, rfl⟩
        · exact ⟨_, rfl, rfl⟩
      · rintro σ H5 ⟨pl, rfl, rfl⟩
        walk_at "st"
        refine ⟨.inl ⟨rfl, _, SqL.of N.at_⟩, ?_⟩
        walk_at "st"
        refine i_app N.at_ (szlt (by simp [iL]; omega)) ?_
        exact ⟨_, _, xs ++ [pl], rfl, N.app, by rw [upd_ne hne]; exact hq, by simp; omega⟩
    · rintro σ H4 ⟨u1, u2, xs, rfl, N, hq, hx⟩
      walk_at "st"
      exact k l H4 xs N (by omega)

def sp_law_so_turning_of (K : PySem.W.Frag) : Sp := fun vs H Q _ => ∃ (x0 : Addr) (n0 : List Int), vs = [.ref x0] ∧ H x0 = some (.lst (iL n0)) ∧ n0.length ≤ 50000 ∧ ∀ l H', NewI H H' l (turn (moves n0)) → Q (.ref l) H'
theorem ok_law_so_turning_of (T : Txt mg) (D : Def K mg "_law_so_turning_of" s_law_so_turning_of) (C_law_own : Callee P w K mg base "_law_own" 2 spOwn) (C_turning_of : Callee P w K mg base "turning_of" 2 (spTurning K)) : Callee P w K mg base "_law_so_turning_of" 3 (sp_law_so_turning_of K) := by
  refine D.ok sc_law_so_turning_of bd_law_so_turning_of (fun vs H Q E h => ?len) (fun f cdv A outer s H vs Q E hr h => ?body)
  case len => obtain ⟨x0, n0, rfl, _⟩ := h; rfl
  case body =>
    obtain ⟨x0, n0, rfl, h0, hl0, k⟩ := h
    have hu := hr.units
    refine ⟨_, (pss_cons (ps_set (i := 1) sc_law_so_turning_of.nd rfl (Or.inl rfl) (pe_lst (pa_cons (pe_callN C_law_own (hr.mono (by decide)) (by rfl) (pa_cons (pv 0) pa_nil)) pa_nil)))
 (pss_cons (ps_set (i := 2) sc_law_so_turning_of.nd rfl (Or.inl rfl) (pe_callN C_turning_of (hr.mono (by decide)) (by rfl) (pa_cons (pe_ix (ix_K K) (pv 1) pe_int (by exact fun _ _ => rfl)) pa_nil)))
 (pss_join (ps_if (pt_truthK K (pe_callB (call_isinstanceK K) (by rfl) T.z_isinstance bt_isinstance (pa_cons (pv 2) (pa_cons (pe_bltn (by rfl) T.z_list bt_list (show RelV (.ty "list") _ from rfl)) pa_nil))))
 (pss_one (ps_expr (pe_bmK K PySem.F.plainAttrs_list PySem.F.slot_list_append PySem.F.type_list_append mt_append (pv 2) (pa_cons pe_int pa_nil))))
 pss_nil)
 (pss_cons (ps_set (i := 3) sc_law_so_turning_of.nd rfl (Or.inl rfl) (pe_cmpR (op_eqK K hu) (pv 1) (pe_lst (pa_cons (pv 0) pa_nil)) (nomark _)))
 (pss_join (ps_if (pt_truthK K (pe_callB (call_isinstanceK K) (by rfl) T.z_isinstance bt_isinstance (pa_cons (pv 2) (pa_cons (pe_bltn (by rfl) T.z_list bt_list (show RelV (.ty "list") _ from rfl)) pa_nil))))
 (pss_one (ps_expr (pe_bm0K K PySem.F.plainAttrs_list PySem.F.slot_list_pop PySem.F.type_list_pop mt_pop (pv 2))))
 pss_nil)
 (pss_one (ps_ret (pe_ifExp (pt_truthK K (pv 3)) (pv 2) pe_non)))))))), ?_⟩
    dsimp only [tSeq, tAsg, gName, tOp, tUn, tTest, tB, tAnd, tOr, tNot, tAndV, tOrV, tNotV, tIf, tIfS, tRet, tRetN, tDrop, tNext, tCons, tNil, tCB, tCall, tMenu, tComp, iZip2, iEnum, tNoIf, tTru, tJoin, cxOf_K, tLst, tTup, tSl, tPart, tNoPart, tBM, tBM0, tChain, tC, tFor_eq, gTup, gLst, gCons, gNil, gSub, iList, iRng1, iRng2, iRng3, iTup, iZip3, tWhile, tDelS, tBreak, tCont, tRev, tAug, tPar, tNever, ipI, List.append_nil]
    walk_at "st"
    refine ⟨_, rfl, .inr ⟨x0, n0, rfl, (Same.refl H) _ _ h0, hl0, fun o0 H0 N0 => ?_⟩⟩
    have S0 : Same H H0 := (Same.refl H).trans N0.sm
    have e0_0 := N0.at_
    walk_at "st"
    intro lo hlo
    have So : Same H (upd H0 lo (.lst [.ref o0])) := S0.trans (same_upd hlo)
    have e0 := same_upd (o := .lst [.ref o0]) hlo _ _ e0_0
    have eo : upd H0 lo (.lst [.ref o0]) lo = some (.lst [.ref o0]) := upd_same
    generalize upd H0 lo (.lst [.ref o0]) = Ho at *
    walk_at "st"
    refine i_ixN (SqL.of eo) (by decide) rfl ?_
    walk_at "st"
    refine ⟨_, n0, rfl, SqL.of e0, hl0, fun lf Hf N => ?_⟩
    walk_at "st"
    have hlenF : (iL (turn (moves n0))).length ≤ 90000 := by have := turn_length n0; simp [iL]; omega
    refine ⟨fun σ H' => σ = [some (.ref x0), some (.ref lo), some (.ref lf), none] ∧ H' = upd Hf lf (.lst (iL (turn (moves n0)) ++ [V.int 0])), ?_, ?_⟩
    · walk_at "st"
      refine i_isiLL N.at_ ?_
      walk_at "st"
      refine ⟨.inl ⟨rfl, _, SqL.of N.at_⟩, ?_⟩
      walk_at "st"
      refine i_app N.at_ (szlt (by omega)) ?_
      exact ⟨rfl, rfl⟩
    rintro σ H' ⟨rfl, rfl⟩
    have SF : Same Ho (upd Hf lf (.lst (iL (turn (moves n0)) ++ [V.int 0]))) := fun b o e => by rw [upd_ne (ne_of_none e N.fr)]; exact N.sm b o e
    walk_at "st"
    intro lg hlg
    have SB : Same Ho _ := SF.trans (same_upd (o := .lst [.ref x0]) hlg)
    have hgl := same_upd (o := .lst [.ref x0]) hlg lf _ upd_same
    refine i_eqSame (.list [pL n0]) (pd_lst (SqL.of (SB _ _ eo)) (.cons (pd_ints (SqL.of (SB _ _ e0))) .nil)) (pd_lst (SqL.of upd_same) (.cons (pd_ints (SqL.of (SB _ _ (So _ _ h0)))) .nil)) ?_
    walk_at "st"
    generalize upd _ lg _ = Hg at *
    refine ⟨fun σ H' => σ = [some (.ref x0), some (.ref lo), some (.ref lf), some (.bl true)] ∧ H' = upd Hg lf (.lst (iL (turn (moves n0)))), ?_, ?_⟩
    · walk_at "st"
      refine i_isiLL hgl ?_
      walk_at "st"
      refine ⟨.inl ⟨rfl, _, SqL.of hgl⟩, ?_⟩
      walk_at "st"
      refine i_popS hgl ?_
      exact ⟨rfl, rfl⟩
    rintro σ H' ⟨rfl, rfl⟩
    walk_at "st"
    have SZ : Same H (upd Hg lf (.lst (iL (turn (moves n0))))) := fun b o e => by rw [upd_ne (ne_of_none (So _ _ e) N.fr)]; exact SB _ _ (So _ _ e)
    exact k lf _ ⟨So.free N.fr, SZ, upd_same⟩
--SPLIT
theorem paired_getL {α β : Type} {F : α → β → Prop} : ∀ {as : List α} {bs : List β} {i : Nat} {a : α}, Paired F as bs → as[i]? = some a → ∃ b, bs[i]? = some b ∧ F a b
  | _, _, i, b, .nil, h => by simp at h
  | _, _, 0, b, .cons r _, h => by simp at h; subst h; exact ⟨_, rfl, r⟩
  | _, _, i + 1, b, .cons _ t, h => by
    obtain ⟨a, h1, h2⟩ := paired_getL (i := i) (a := b) t (by simpa using h)
    exact ⟨a, by simpa using h1, h2⟩
abbrev MsAt (H : Hp) (ts : List Addr) (ms : List (Int × Int)) : Prop := Paired (fun t (m : Int × Int) => H t = some (.tup [.int m.1, .int m.2])) ts ms
theorem MsAt.more {H H' : Hp} {ts : List Addr} {ms : List (Int × Int)} (h : MsAt H ts ms) (s : Same H H') : MsAt H' ts ms := Paired.mapP h fun _ _ e => s _ _ e
theorem MsAt.up {H : Hp} {l : Addr} {vs ws : List V} {ts : List Addr} {ms : List (Int × Int)} (h : MsAt H ts ms) (hl : H l = some (.lst ws)) : MsAt (upd H l (.lst vs)) ts ms :=
  Paired.mapP h fun t m e => by
    have : t ≠ l := fun z => by rw [z, hl] at e; cases e
    rw [upd_ne this]; exact e

def isSw : List Int → Bool
  | [a, b, c, d] => decide (ab (c - b) ≤ ab (b - a)) && decide (ab (c - b) ≤ ab (d - c))
  | _ => false
def hasSw (pile : List Int) : Bool := isSw (pile.drop (pile.length - 4))
theorem hasSw_short {pile : List Int} (h : pile.length < 4) : hasSw pile = false := by
  unfold hasSw
  match pile, h with
  | [], _ => rfl
  | [_], _ => rfl
  | [_, _], _ => rfl
  | [_, _, _], _ => rfl
  | _ :: _ :: _ :: _ :: _, h => simp at h; omega
theorem hasSw_four {A : List Int} {a b c d : Int} : hasSw (A ++ [a, b, c, d]) = (decide (ab (c - b) ≤ ab (b - a)) && decide (ab (c - b) ≤ ab (d - c))) := by
  unfold hasSw
  rw [show (A ++ [a, b, c, d]).length - 4 = A.length by simp, List.drop_left]
  rfl
theorem four_of {pile : List Int} (h : ¬ pile.length < 4) : ∃ A a b c d, pile = A ++ [a, b, c, d] := by
  have e := List.take_append_drop (pile.length - 4) pile
  have hl : (pile.drop (pile.length - 4)).length = 4 := by rw [List.length_drop]; omega
  match hq : pile.drop (pile.length - 4), hl with
  | [a, b, c, d], _ => exact ⟨_, a, b, c, d, by rw [hq] at e; exact e.symm⟩
def spHasSw : Sp := fun vs H Q _ => ∃ (a : Addr) (pile : List Int), vs = [.ref a] ∧ H a = some (.lst (iL pile)) ∧ ∀ H', Same H H' → Q (.bl (hasSw pile)) H'
theorem ok_has_swing (T : Txt mg) (D : Def K mg "has_swing" s_has_swing) : Callee P w K mg base "has_swing" 1 spHasSw := by
  refine D.ok sc_has_swing bd_has_swing (fun vs H Q E h => ?len) (fun f cdv A outer s H vs Q E hr h => ?body)
  case len => obtain ⟨a, pile, rfl, _⟩ := h; rfl
  case body =>
    obtain ⟨a, pile, rfl, hA, k⟩ := h
    have hu := hr.units
    refine ⟨_, (pss_cons (ps_if (pt_cmpR op_lt (pe_callB (call_lenK K) (by rfl) T.z_len bt_len (pa_cons (pv 0) pa_nil)) pe_int (nomark _))
 (pss_one (ps_ret pe_bl))
 pss_nil)
 (pss_cons (ps_asg (pe_slice (sl_listK K) (pv 0) (po_some (pe_negK (r := -4) (by decide))) po_none) (pg_lstK K 4 (pgs_cons (pg_name (i := 1) sc_has_swing.nd rfl (Or.inl rfl)) (pgs_cons (pg_name (i := 2) sc_has_swing.nd rfl (Or.inl rfl)) (pgs_cons (pg_name (i := 3) sc_has_swing.nd rfl (Or.inl rfl)) (pgs_cons (pg_name (i := 4) sc_has_swing.nd rfl (Or.inl rfl)) pgs_nil))))))
 (pss_cons (ps_set (i := 5) sc_has_swing.nd rfl (Or.inl rfl) (pe_callB call_absK (by rfl) T.z_abs bt_abs (pa_cons (pe_op op_sub (pv 3) (pv 2)) pa_nil)))
 (pss_one (ps_ret (pe_and (pe_cmpR op_le (pv 5) (pe_callB call_absK (by rfl) T.z_abs bt_abs (pa_cons (pe_op op_sub (pv 2) (pv 1)) pa_nil)) (nomark _)) (pe_one (pe_cmpR op_le (pv 5) (pe_callB call_absK (by rfl) T.z_abs bt_abs (pa_cons (pe_op op_sub (pv 4) (pv 3)) pa_nil)) (nomark _))))))))), ?_⟩
    dsimp only [tSeq, tAsg, gName, tOp, tUn, tTest, tB, tAnd, tOr, tNot, tAndV, tOrV, tNotV, tIf, tIfS, tRet, tRetN, tDrop, tNext, tCons, tNil, tCB, tCall, tMenu, tComp, iZip2, iEnum, tNoIf, tTru, tJoin, cxOf_K, tLst, tTup, tSl, tPart, tNoPart, tBM, tBM0, tChain, tC, tFor_eq, gTup, gLst, gCons, gNil, gSub, iList, iRng1, iRng2, iRng3, iTup, iZip3, tWhile, tDelS, tBreak, tCont, tRev, tAug, tPar, tNever, ipI, List.append_nil]
    walk_at "st"
    refine i_lenI (SqL.of hA) ?_
    walk_at "st"
    refine i_if (fun g => ?_) (fun g => ?_)
    · walk_at "st"
      rw [hasSw_short (by omega)] at k
      exact k H (Same.refl _)
    · obtain ⟨A, p1, p2, p3, p4, rfl⟩ := four_of (show ¬ pile.length < 4 by omega)
      rw [hasSw_four] at k
      walk_at "st"
      refine i_slEnd4 (A := iL A) (a := .int p1) (b := .int p2) (c := .int p3) (d := .int p4) (SqL.of (by rw [hA]; simp [iL])) (fun l hl => ?_)
      have s1 : Same H _ := same_upd (o := .lst [.int p1, .int p2, .int p3, .int p4]) hl
      have e1 : upd H l (.lst [.int p1, .int p2, .int p3, .int p4]) l = some (.lst [.int p1, .int p2, .int p3, .int p4]) := upd_same
      generalize upd H l (.lst [.int p1, .int p2, .int p3, .int p4]) = H1 at *
      walk_at "st"
      refine ⟨_, _, rfl, SqL.of e1, rfl, _, _, rfl, _, _, rfl, _, _, rfl, _, _, rfl, rfl, ?_⟩
      walk_at "st"
      refine i_if (fun g2 => ?_) (fun g2 => ?_)
      · walk_at "st"
        have q := k H1 s1
        rw [decide_eq_true (show ab (p3 - p2) ≤ ab (p2 - p1) from g2), Bool.true_and] at q
        exact q
      · walk_at "st"
        have q := k H1 s1
        rw [decide_eq_false (show ¬ ab (p3 - p2) ≤ ab (p2 - p1) from g2), Bool.false_and] at q
        exact q

structure SwSt (H H' : Hp) (l1 l2 lt : Addr) (T : List Int) (ts : List Addr) (prs : List (Int × Int)) (pile : List Int) : Prop where
  sm : Same H H'
  a1 : H' l1 = some (.lst (ts.map V.ref))
  it : MsAt H' ts prs
  a2 : H' l2 = some (.lst (iL pile))
  a3 : H' lt = some (.lst (iL T))
  f1 : H l1 = none
  f2 : H l2 = none
  n12 : l1 ≠ l2
  n13 : lt ≠ l1
  n23 : lt ≠ l2
theorem SwSt.more {H H' H2 : Hp} {l1 l2 lt : Addr} {T : List Int} {ts : List Addr} {prs : List (Int × Int)} {pile : List Int} (S : SwSt H H' l1 l2 lt T ts prs pile) (s : Same H' H2) : SwSt H H2 l1 l2 lt T ts prs pile :=
  ⟨S.sm.trans s, s _ _ S.a1, S.it.more s, s _ _ S.a2, s _ _ S.a3, S.f1, S.f2, S.n12, S.n13, S.n23⟩
theorem SwSt.pl {H H' : Hp} {l1 l2 lt : Addr} {T : List Int} {ts : List Addr} {prs : List (Int × Int)} {pile pile' : List Int} (S : SwSt H H' l1 l2 lt T ts prs pile) {vs : List V} (e : vs = iL pile') : SwSt H (upd H' l2 (.lst vs)) l1 l2 lt T ts prs pile' := by
  subst e
  exact ⟨fun b o z => by rw [upd_ne (ne_of_none z S.f2)]; exact S.sm b o z, by rw [upd_ne S.n12]; exact S.a1, S.it.up S.a2, upd_same, by rw [upd_ne S.n23]; exact S.a3, S.f1, S.f2, S.n12, S.n13, S.n23⟩
theorem SwSt.ad {H H' : Hp} {l1 l2 lt t : Addr} {T : List Int} {ts : List Addr} {prs : List (Int × Int)} {pile : List Int} {m : Int × Int} (S : SwSt H H' l1 l2 lt T ts prs pile) (e : H' t = some (.tup [.int m.1, .int m.2])) : SwSt H (upd H' l1 (.lst (ts.map V.ref ++ [V.ref t]))) l1 l2 lt T (ts ++ [t]) (prs ++ [m]) pile := by
  have : t ≠ l1 := fun z => by rw [z, S.a1] at e; cases e
  exact ⟨fun b o z => by rw [upd_ne (ne_of_none z S.f1)]; exact S.sm b o z, by rw [upd_same]; simp, Paired.snoc (S.it.up S.a1) (by rw [upd_ne this]; exact e), by rw [upd_ne S.n12.symm]; exact S.a2, by rw [upd_ne S.n13]; exact S.a3, S.f1, S.f2, S.n12, S.n13, S.n23⟩
def spSwings (K : PySem.W.Frag) : Sp := fun vs H Q _ => ∃ (a : Addr) (row : List Int), vs = [.ref a] ∧ SqL K H a (iL row) ∧ row.length ≤ 20000 ∧
  ∀ (t ls lf : Addr) (ts : List Addr) (ps : List (Int × Int)) (lx : List Int) H', Same H H' → H' t = some (.tup [.ref ls, .ref lf]) → H' ls = some (.lst (ts.map V.ref)) → MsAt H' ts ps → H' lf = some (.lst (iL lx)) → ps.length ≤ row.length → lx.length ≤ row.length → SwOk row ps lx → (lx, ps) = swF (turn (moves row)) [] [] → (∀ t ∈ ts, H t = none) → H ls = none → H lf = none → ls ≠ lf → Q (.ref t) H'
def SwInv (T : List Int) (i : Nat) (pile : List Int) (prs : List (Int × Int)) : Prop := altL (pile ++ T.drop i) ∧ pile.length + 2 * prs.length = i ∧ ∀ d a, 0 ≤ d → gw d a T = gw d a (pile ++ T.drop i) + 2 * sws d prs
theorem hasSw_eq (L : List Int) : hasSw L = hasS L := by
  unfold hasSw hasS
  match L.drop (L.length - 4) with
  | [] => rfl
  | [_] => rfl
  | [_, _] => rfl
  | [_, _, _] => rfl
  | [_, _, _, _] => rfl
  | _ :: _ :: _ :: _ :: _ :: _ => rfl
theorem delS_four (A : List Int) (a b c d : Int) : delS (A ++ [a, b, c, d]) = A ++ [a, d] := by
  unfold delS
  rw [show (A ++ [a, b, c, d]).length = A.length + 4 by simp, show A.length + 4 - 3 = A.length + 1 by omega, show A.length + 4 - 1 = A.length + 3 by omega]
  rw [List.take_append, List.drop_append]
  simp
  rw [List.take_of_length_le (by omega), List.drop_of_length_le (by omega)]
  simp
theorem prS_four (A : List Int) (a b c d : Int) : prS (A ++ [a, b, c, d]) = (min b c, max b c) := by
  unfold prS
  rw [show (A ++ [a, b, c, d]).length = A.length + 4 by simp, show A.length + 4 - 3 = A.length + 1 by omega, show A.length + 4 - 2 = A.length + 2 by omega]
  simp [List.getD_eq_getElem?_getD, List.getElem?_append_right]
theorem ok_swings_of (T : Txt mg) (D : Def K mg "swings_of" s_swings_of) (C_turning_of : Callee P w K mg base "turning_of" 2 (spTurning K)) (C_has_swing : Callee P w K mg base "has_swing" 1 spHasSw) : Callee P w K mg base "swings_of" 3 (spSwings K) := by
  refine D.ok sc_swings_of bd_swings_of (fun vs H Q E h => ?len) (fun f cdv A outer s H vs Q E hr h => ?body)
  case len => obtain ⟨a, row, rfl, _⟩ := h; rfl
  case body =>
    obtain ⟨a, row, rfl, hA, hrow, k⟩ := h
    have hu := hr.units
    refine ⟨_, (pss_cons (ps_set (i := 1) sc_swings_of.nd rfl (Or.inl rfl) (pe_lst pa_nil))
 (pss_cons (ps_set (i := 2) sc_swings_of.nd rfl (Or.inl rfl) (pe_lst pa_nil))
 (pss_cons (ps_for PassesOwn.never rfl (pi_listK K (pe_callN C_turning_of (hr.mono (by decide)) (by rfl) (pa_cons (pv 0) pa_nil))) (pg_name (i := 3) sc_swings_of.nd rfl (Or.inl rfl))
 (pss_cons (ps_expr (pe_bmK K PySem.F.plainAttrs_list PySem.F.slot_list_append PySem.F.type_list_append mt_append (pv 2) (pa_cons (pv 3) pa_nil)))
 (pss_one (ps_while PassesOwn.never (pt_truthK K (pe_callN C_has_swing (hr.mono (by decide)) (by rfl) (pa_cons (pv 2) pa_nil)))
 (pss_cons (ps_expr (pe_bmK K PySem.F.plainAttrs_list PySem.F.slot_list_append PySem.F.type_list_append mt_append (pv 1) (pa_cons (pe_tup (pa_cons (pe_callB (call_minK K) (by rfl) T.z_min bt_min (pa_cons (pe_slice (sl_listK K) (pv 2) (po_some (pe_negK (r := -3) (by decide))) (po_some (pe_negK (r := -1) (by decide)))) pa_nil)) (pa_cons (pe_callB (call_maxK K) (by rfl) T.z_max bt_max (pa_cons (pe_slice (sl_listK K) (pv 2) (po_some (pe_negK (r := -3) (by decide))) (po_some (pe_negK (r := -1) (by decide)))) pa_nil)) pa_nil))) pa_nil)))
 (pss_one (ps_delS (pv 2) (po_some (pe_negK (r := -3) (by decide))) (po_some (pe_negK (r := -1) (by decide))))))))))
 (pss_one (ps_ret (pe_tup (pa_cons (pv 1) (pa_cons (pv 2) pa_nil)))))))), ?_⟩
    dsimp only [tSeq, tAsg, gName, tOp, tUn, tTest, tB, tAnd, tOr, tNot, tAndV, tOrV, tNotV, tIf, tIfS, tRet, tRetN, tDrop, tNext, tCons, tNil, tCB, tCall, tMenu, tComp, iZip2, iEnum, tNoIf, tTru, tJoin, cxOf_K, tLst, tTup, tSl, tPart, tNoPart, tBM, tBM0, tChain, tC, tFor_eq, gTup, gLst, gCons, gNil, gSub, iList, iRng1, iRng2, iRng3, iTup, iZip3, tWhile, tDelS, tBreak, tCont, tRev, tAug, tPar, tNever, ipI, List.append_nil]
    walk_at "st"
    intro l1 h1
    walk_at "st"
    intro l2 h2
    have s2 : Same H _ := (same_upd (o := .lst []) h1).trans (same_upd (o := .lst []) h2)
    have n12 : l1 ≠ l2 := fun z => by rw [← z, upd_same] at h2; cases h2
    have e1 : upd (upd H l1 (.lst [])) l2 (.lst []) l1 = some (.lst []) := by rw [upd_ne n12]; exact upd_same
    have e2 : upd (upd H l1 (.lst [])) l2 (.lst []) l2 = some (.lst []) := upd_same
    have f2 : H l2 = none := (same_upd h1).free h2
    generalize upd (upd H l1 (.lst [])) l2 (.lst []) = H2 at *
    walk_at "st"
    refine ⟨a, row, rfl, s2.seq hA, by omega, fun lt H3 N3 => ?_⟩
    have halt := turn_alt row
    have hT : ∀ d a, 0 ≤ d → gw d a (turn (moves row)) = gw d a row := fun d a hd => gw_turn hd row a
    have hTl := turn_length row
    generalize htr : turn (moves row) = tr at *
    walk_at "st"
    refine ⟨⟨_, SqL.of N3.at_⟩, lp_ints (ns := tr) (fun i σ H4 => ∃ (u : Option V) (ts : List Addr) (prs : List (Int × Int)) (pile : List Int), σ = [some (.ref a), some (.ref l1), some (.ref l2), u] ∧ SwSt H H4 l1 l2 lt tr ts prs pile ∧ SwInv tr i pile prs ∧ swF tr [] [] = swF (tr.drop i) pile prs ∧ ∀ t ∈ ts, H t = none) ?_ ?_ ?_ ?_⟩
    · refine ⟨_, [], [], [], rfl, ⟨s2.trans N3.sm, N3.sm _ _ e1, .nil, N3.sm _ _ e2, N3.at_, h1, f2, n12, fun z => ?_, fun z => ?_⟩, ⟨halt, rfl, fun d a hd => ?_⟩, rfl, by simp⟩
      · have q := N3.fr; rw [z, e1] at q; cases q
      · have q := N3.fr; rw [z, e2] at q; cases q
      · simp [sws]
    · rintro i σ H4 _ ⟨u, ts, prs, pile, rfl, S, _⟩
      exact SqL.of S.a3
    · rintro i x σ H4 hx ⟨u, ts, prs, pile, rfl, S, ⟨hi1, hi2, hi3⟩, hsf, hnew⟩
      have hil : i < tr.length := (List.getElem?_eq_some_iff.mp hx).1
      walk_at "st"
      refine ⟨.inl ⟨rfl, _, SqL.of S.a2⟩, ?_⟩
      walk_at "st"
      refine i_app S.a2 (szlt (by simp [iL]; omega)) ?_
      have S5 := S.pl (pile' := pile ++ [x]) (vs := iL pile ++ [.int x]) (by simp [iL])
      generalize upd H4 l2 (.lst (iL pile ++ [.int x])) = H5 at *
      have hI : SwInv tr (i + 1) (pile ++ [x]) prs := by
        refine ⟨?_, by simp; omega, fun d a hd => ?_⟩
        · rw [dropc hx] at hi1; simpa using hi1
        · have := hi3 d a hd
          rw [dropc hx] at this
          simpa using this
      have hsf2 : ∃ n, (pile ++ [x]).length ≤ n ∧ swF tr [] [] = swF (tr.drop (i + 1)) (swW n (pile ++ [x]) prs).1 (swW n (pile ++ [x]) prs).2 := by
        refine ⟨pile.length + 1, by simp, ?_⟩
        rw [hsf, dropc hx]
        rfl
      generalize pile ++ [x] = pile1 at *
      clear hi1 hi2 hi3 S hsf
      walk_at "st"
      refine ⟨fun m σ H6 => ∃ (ts : List Addr) (prs : List (Int × Int)) (pile : List Int), σ = [some (.ref a), some (.ref l1), some (.ref l2), some (.int x)] ∧ SwSt H H6 l1 l2 lt tr ts prs pile ∧ SwInv tr (i + 1) pile prs ∧ m = pile.length ∧ (∃ n, pile.length ≤ n ∧ swF tr [] [] = swF (tr.drop (i + 1)) (swW n pile prs).1 (swW n pile prs).2) ∧ ∀ t ∈ ts, H t = none, ⟨_, ts, prs, pile1, rfl, S5, hI, rfl, hsf2, hnew⟩, ?_⟩
      clear hsf2 hnew
      rintro m σ H6 ⟨ts, prs, pile, rfl, S, hI, rfl, ⟨nf, hnf, hsf⟩, hnew⟩
      walk_at "st"
      refine ⟨l2, pile, rfl, S.a2, fun H7 s7 => ?_⟩
      have S7 := S.more s7
      walk_at "st"
      by_cases hsw : hasSw pile = true
      · rw [if_pos hsw]
        have hsw0 := hsw
        obtain ⟨A, p1, p2, p3, p4, rfl⟩ := four_of (pile := pile) (fun z => by rw [hasSw_short z] at hsw; cases hsw)
        rw [hasSw_four, Bool.and_eq_true, decide_eq_true_eq, decide_eq_true_eq] at hsw
        obtain ⟨hi1, hi2, hi3⟩ := hI
        have hfour := four_up (A := A) (r := tr.drop (i + 1)) (by simpa using hi1) hsw.1 hsw.2
        have hlen : (A ++ [p1, p2, p3, p4]).length = A.length + 4 := by simp
        refine ⟨fun σ H8 => ∃ (ts : List Addr), σ = [some (.ref a), some (.ref l1), some (.ref l2), some (.int x)] ∧ SwSt H H8 l1 l2 lt tr ts (prs ++ [(min p2 p3, max p2 p3)]) (A ++ [p1, p4]) ∧ ∀ t ∈ ts, H t = none, ?_, ?_⟩
        · rintro σ H8 ⟨ts8, rfl, S8, hn8⟩
          refine ⟨(A ++ [p1, p4]).length, by simp, ts8, _, _, rfl, S8, ⟨?_, by simp at hi2 ⊢; omega, fun d a hd => ?_⟩, rfl, ?_, hn8⟩
          · have := alt_out hfour A (r := tr.drop (i + 1)) (by simpa using hi1)
            simpa using this
          · rw [hi3 d a hd, sws_snoc]
            have := gw_out hd (r := tr.drop (i + 1)) (show (p1 ≤ p3 ∧ p3 ≤ p2 ∧ p2 ≤ p4) ∨ (p4 ≤ p2 ∧ p2 ≤ p3 ∧ p3 ≤ p1) by omega) A a
            simp only [List.append_assoc, List.cons_append, List.nil_append] at this ⊢
            rw [this]
            omega
          · obtain ⟨n', rfl⟩ : ∃ n', nf = n' + 1 := ⟨nf - 1, by rw [hlen] at hnf; omega⟩
            refine ⟨n', by simp at hnf ⊢; omega, ?_⟩
            rw [hasSw_eq] at hsw0
            rw [hsf, swW, if_pos hsw0, delS_four, prS_four]
        · have sq : ∀ {H9 : Hp}, Same H7 H9 → SqL K H9 l2 (iL A ++ [.int p1, .int p2, .int p3, .int p4]) := fun s => SqL.of (by rw [s _ _ S7.a2]; simp [iL])
          walk_at "st"
          refine ⟨.inl ⟨rfl, _, SqL.of S7.a1⟩, ?_⟩
          walk_at "st"
          refine i_slMid2 (sq (Same.refl _)) (fun g1 hg1 => ?_)
          have s8 : Same H7 _ := same_upd (o := .lst [.int p2, .int p3]) hg1
          have e8 : upd H7 g1 (.lst [.int p2, .int p3]) g1 = some (.lst (iL [p2, p3])) := upd_same
          generalize upd H7 g1 (.lst [.int p2, .int p3]) = H8 at *
          refine i_minL (SqL.of e8) (by simp) (fun mn hm1 hm2 => ?_)
          walk_at "st"
          refine i_slMid2 (sq s8) (fun g2 hg2 => ?_)
          have s9 : Same H8 _ := same_upd (o := .lst [.int p2, .int p3]) hg2
          have e9 : upd H8 g2 (.lst [.int p2, .int p3]) g2 = some (.lst (iL [p2, p3])) := upd_same
          generalize upd H8 g2 (.lst [.int p2, .int p3]) = H9 at *
          refine i_maxL (SqL.of e9) (by simp) (fun mx hm3 hm4 => ?_)
          have emn : mn = min p2 p3 := by
            have b1 := hm2 p2 (by simp)
            have b2 := hm2 p3 (by simp)
            have b3 : mn = p2 ∨ mn = p3 := by simpa using hm1
            omega
          have emx : mx = max p2 p3 := by
            have b1 := hm4 p2 (by simp)
            have b2 := hm4 p3 (by simp)
            have b3 : mx = p2 ∨ mx = p3 := by simpa using hm3
            omega
          subst emn emx
          walk_at "st"
          intro t ht
          have S10 := S7.more (s8.trans (s9.trans (same_upd (o := .tup [.int (min p2 p3), .int (max p2 p3)]) ht)))
          have e10 : upd H9 t (.tup [.int (min p2 p3), .int (max p2 p3)]) t = some (.tup [.int (min p2 p3), .int (max p2 p3)]) := upd_same
          generalize upd H9 t (.tup [.int (min p2 p3), .int (max p2 p3)]) = H10 at *
          walk_at "st"
          refine i_app S10.a1 (szlt (by rw [List.length_map, S10.it.length]; simp at hi2; omega)) ?_
          have S11 := S10.ad (m := (min p2 p3, max p2 p3)) e10
          generalize upd H10 l1 _ = H11 at *
          walk_at "st"
          refine ⟨l2, iL (A ++ [p1, p2, p3, p4]), rfl, S11.a2, ?_⟩
          have e12 : delV (iL (A ++ [p1, p2, p3, p4])) (some (-3)) (some (-1)) = iL (A ++ [p1, p4]) := by
            have := del_mid2 (A := iL A) (a := .int p1) (b := .int p2) (c := .int p3) (d := .int p4)
            simpa [iL] using this
          refine ⟨_, rfl, S11.pl e12, fun t' ht' => ?_⟩
          rcases List.mem_append.mp ht' with z | z
          · exact hnew t' z
          · simp at z; subst z; exact (S7.sm.trans (s8.trans s9)).free ht
      · rw [if_neg hsw]
        have e0 : swW nf pile prs = (pile, prs) := by
          cases nf with
          | zero => rfl
          | succ n => rw [swW, if_neg (by rw [← hasSw_eq]; exact hsw)]
        rw [e0] at hsf
        exact ⟨_, ts, prs, pile, rfl, S7, hI, hsf, hnew⟩
    · rintro σ H4 ⟨u, ts, prs, pile, rfl, S, ⟨hi1, hi2, hi3⟩, hsf, hnew⟩
      walk_at "st"
      intro t ht
      have s5 := same_upd (o := .tup [.ref l1, .ref l2]) ht
      have S5 := S.more s5
      rw [List.drop_of_length_le (Nat.le_refl _), List.append_nil] at hi3
      exact k t l1 l2 ts prs pile _ S5.sm upd_same S5.a1 S5.it S5.a2 (by omega) (by omega) (fun d a hd => by rw [← hT d a hd]; exact hi3 d a hd) (by rw [List.drop_of_length_le (Nat.le_refl _)] at hsf; rw [hsf]; rfl) hnew S5.f1 S5.f2 S5.n12

--SPLIT
def spSoSw (K : PySem.W.Frag) : Sp := fun vs H Q _ => ∃ (x0 : Addr) (n0 : List Int), vs = [.ref x0] ∧ H x0 = some (.lst (iL n0)) ∧ n0.length ≤ 20000 ∧
  ∀ (t ls lf : Addr) (ts : List Addr) (ps : List (Int × Int)) (lx : List Int) H', Same H H' → H' t = some (.tup [.ref ls, .ref lf]) → H' ls = some (.lst (ts.map V.ref)) → MsAt H' ts ps → H' lf = some (.lst (iL lx)) → ps.length ≤ n0.length → lx.length ≤ n0.length → (lx, ps) = swF (turn (moves n0)) [] [] → H ls = none → H lf = none → ls ≠ lf → Q (.ref t) H'
theorem ok_law_so_swings_of (T : Txt mg) (D : Def K mg "_law_so_swings_of" s_law_so_swings_of) (C_law_own : Callee P w K mg base "_law_own" 2 spOwn) (C_swings_of : Callee P w K mg base "swings_of" 3 (spSwings K)) : Callee P w K mg base "_law_so_swings_of" 4 (spSoSw K) := by
  refine D.ok sc_law_so_swings_of bd_law_so_swings_of (fun vs H Q E h => ?len) (fun f cdv A outer s H vs Q E hr h => ?body)
  case len => obtain ⟨x0, n0, rfl, _⟩ := h; rfl
  case body =>
    obtain ⟨x0, n0, rfl, h0, hl0, k⟩ := h
    have hu := hr.units
    refine ⟨_, (pss_cons (ps_set (i := 1) sc_law_so_swings_of.nd rfl (Or.inl rfl) (pe_lst (pa_cons (pe_callN C_law_own (hr.mono (by decide)) (by rfl) (pa_cons (pv 0) pa_nil)) pa_nil)))
 (pss_cons (ps_set (i := 2) sc_law_so_swings_of.nd rfl (Or.inl rfl) (pe_callN C_swings_of (hr.mono (by decide)) (by rfl) (pa_cons (pe_ix (ix_K K) (pv 1) pe_int (by exact fun _ _ => rfl)) pa_nil)))
 (pss_join (ps_if (pt_truthK K (pe_callB (call_isinstanceK K) (by rfl) T.z_isinstance bt_isinstance (pa_cons (pv 2) (pa_cons (pe_bltn (by rfl) T.z_list bt_list (show RelV (.ty "list") _ from rfl)) pa_nil))))
 (pss_one (ps_expr (pe_bmK K PySem.F.plainAttrs_list PySem.F.slot_list_append PySem.F.type_list_append mt_append (pv 2) (pa_cons pe_int pa_nil))))
 pss_nil)
 (pss_cons (ps_set (i := 3) sc_law_so_swings_of.nd rfl (Or.inl rfl) (pe_cmpR (op_eqK K hu) (pv 1) (pe_lst (pa_cons (pv 0) pa_nil)) (nomark _)))
 (pss_join (ps_if (pt_truthK K (pe_callB (call_isinstanceK K) (by rfl) T.z_isinstance bt_isinstance (pa_cons (pv 2) (pa_cons (pe_bltn (by rfl) T.z_list bt_list (show RelV (.ty "list") _ from rfl)) pa_nil))))
 (pss_one (ps_expr (pe_bm0K K PySem.F.plainAttrs_list PySem.F.slot_list_pop PySem.F.type_list_pop mt_pop (pv 2))))
 pss_nil)
 (pss_one (ps_ret (pe_ifExp (pt_truthK K (pv 3)) (pv 2) pe_non)))))))), ?_⟩
    dsimp only [tSeq, tAsg, gName, tOp, tUn, tTest, tB, tAnd, tOr, tNot, tAndV, tOrV, tNotV, tIf, tIfS, tRet, tRetN, tDrop, tNext, tCons, tNil, tCB, tCall, tMenu, tComp, iZip2, iEnum, tNoIf, tTru, tJoin, cxOf_K, tLst, tTup, tSl, tPart, tNoPart, tBM, tBM0, tChain, tC, tFor_eq, gTup, gLst, gCons, gNil, gSub, iList, iRng1, iRng2, iRng3, iTup, iZip3, tWhile, tDelS, tBreak, tCont, tRev, tAug, tPar, tNever, ipI, List.append_nil]
    walk_at "st"
    refine ⟨_, rfl, .inr ⟨x0, n0, rfl, h0, by omega, fun o0 H0 N0 => ?_⟩⟩
    walk_at "st"
    intro lo hlo
    have So : Same H (upd H0 lo (.lst [.ref o0])) := N0.sm.trans (same_upd hlo)
    have e0 := same_upd (o := .lst [.ref o0]) hlo _ _ N0.at_
    have eo : upd H0 lo (.lst [.ref o0]) lo = some (.lst [.ref o0]) := upd_same
    generalize upd H0 lo (.lst [.ref o0]) = Ho at *
    walk_at "st"
    refine i_ixN (SqL.of eo) (by decide) rfl ?_
    walk_at "st"
    refine ⟨o0, n0, rfl, SqL.of e0, hl0, fun t ls lf ts ps lx Hf sf et els hM elf q1 q2 _ hsw _ f1 f2 n12 => ?_⟩
    walk_at "st"
    refine ⟨fun σ H' => σ = [some (.ref x0), some (.ref lo), some (.ref t), none] ∧ Hf = H', ?_, ?_⟩
    · walk_at "st"
      refine i_isiTL et ?_
      walk_at "st"
      exact ⟨rfl, rfl⟩
    rintro σ H' ⟨rfl, rfl⟩
    walk_at "st"
    intro lg hlg
    have SB : Same Ho _ := sf.trans (same_upd (o := .lst [.ref x0]) hlg)
    refine i_eqSame (.list [pL n0]) (pd_lst (SqL.of (SB _ _ eo)) (.cons (pd_ints (SqL.of (SB _ _ e0))) .nil)) (pd_lst (SqL.of upd_same) (.cons (pd_ints (SqL.of (SB _ _ (So _ _ h0)))) .nil)) ?_
    have sg := same_upd (o := .lst [.ref x0]) hlg
    generalize upd Hf lg (.lst [.ref x0]) = Hg at *
    walk_at "st"
    refine ⟨fun σ H' => σ = [some (.ref x0), some (.ref lo), some (.ref t), some (.bl true)] ∧ Hg = H', ?_, ?_⟩
    · walk_at "st"
      refine i_isiTL (sg _ _ et) ?_
      walk_at "st"
      exact ⟨rfl, rfl⟩
    rintro σ H' ⟨rfl, rfl⟩
    walk_at "st"
    exact k t ls lf ts ps lx _ (So.trans SB) (sg _ _ et) (sg _ _ els) (hM.more sg) (sg _ _ elf) q1 q2 hsw (So.free f1) (So.free f2) n12
def spWd : Sp := fun vs H Q _ => ∃ i j : Int, vs = [.int i, .int j] ∧ Q (.int (max i j - min i j)) H
theorem ok_law_wide (T : Txt mg) (D : Def K mg "_law_wide" s_law_wide) : Callee P w K mg base "_law_wide" 1 spWd := by
  refine D.ok sc_law_wide bd_law_wide (fun vs H Q E h => ?len) (fun f cdv A outer s H vs Q E hr h => ?body)
  case len => obtain ⟨i, j, rfl, _⟩ := h; rfl
  case body =>
    obtain ⟨i, j, rfl, k⟩ := h
    refine ⟨_, (pss_one (ps_ret (pe_op op_sub (pe_callB (call_maxK K) (by rfl) T.z_max bt_max (pa_cons (pv 0) (pa_cons (pv 1) pa_nil))) (pe_callB (call_minK K) (by rfl) T.z_min bt_min (pa_cons (pv 0) (pa_cons (pv 1) pa_nil)))))), ?_⟩
    dsimp only [tSeq, tAsg, gName, tOp, tUn, tTest, tB, tAnd, tOr, tNot, tAndV, tOrV, tNotV, tIf, tIfS, tRet, tRetN, tDrop, tNext, tCons, tNil, tCB, tCall, tMenu, tComp, iZip2, iEnum, tNoIf, tTru, tJoin, cxOf_K, tLst, tTup, tSl, tPart, tNoPart, tBM, tBM0, tChain, tC, tFor_eq, gTup, gLst, gCons, gNil, gSub, iList, iRng1, iRng2, iRng3, iTup, iZip3, tWhile, tDelS, tBreak, tCont, tRev, tAug, tPar, tNever, ipI, List.append_nil]
    walk_at "st"
    refine i_max2 (fun m1 e1 => ?_)
    walk_at "st"
    refine i_min2 (fun m2 e2 => ?_)
    walk_at "st"
    rw [e1, e2]
    exact k
def spFarW (K : PySem.W.Frag) : Sp := fun vs H Q _ => ∃ (a : Addr) (xs : List Int), vs = [.ref a] ∧ H a = some (.lst (iL xs)) ∧ xs.length ≤ 50000 ∧ ∀ H', Same H H' → Q (.int (wayL xs)) H'
theorem way_take {xs : List Int} {i : Nat} {x y : Int} (hx : xs[i]? = some x) (hy : xs[i + 1]? = some y) : wayL (xs.take (i + 2)) = wayL (xs.take (i + 1)) + (max y x - min y x) := by
  have go : ∀ (A : List Int), wayL (A ++ [x, y]) = wayL (A ++ [x]) + (max y x - min y x) := by
    intro A
    induction A with
    | nil =>
      simp only [List.nil_append]
      rw [wayL_two, wayL_short (by simp), wayL_short (by simp)]
      unfold ab
      split <;> omega
    | cons z A ih =>
      simp only [List.cons_append]
      rw [way_head z x A [y], show A ++ [x] = A ++ x :: [] from rfl, way_head z x A [], show A ++ x :: [y] = A ++ [x, y] from rfl, ih]
      show _ = _ + wayL (A ++ [x]) + _
      omega
  rw [take_snoc_get hy, take_snoc_get hx]
  have := go (xs.take i)
  simpa using this
theorem ok_law_a_far (T : Txt mg) (D : Def K mg "_law_a_far" s_law_a_far) (C_law_wide : Callee P w K mg base "_law_wide" 1 spWd) : Callee P w K mg base "_law_a_far" 2 (spFarW K) := by
  refine D.ok sc_law_a_far bd_law_a_far (fun vs H Q E h => ?len) (fun f cdv A outer s H vs Q E hr h => ?body)
  case len => obtain ⟨a, xs, rfl, _⟩ := h; rfl
  case body =>
    obtain ⟨a, xs, rfl, hA, hl, k⟩ := h
    refine ⟨_, (pss_one (ps_ret (pe_callB (call_sumK K) (by rfl) T.z_sum bt_sum (pa_cons (by exact pe_comp (N := ["k", "places"]) (fr := [none, some 0]) ⟨by rfl, by decide +kernel, by decide +kernel, (show ∀ y ∈ (_ : List (Str × NameKind)), y.2 = NameKind.free → (defScope s_law_a_far).names.lookup y.1 = some .cell ∨ (defScope s_law_a_far).names.lookup y.1 = some .free by decide +kernel), (fr_none (fr_some (by rfl) (by first | exact Or.inl rfl | exact Or.inr rfl) (by rfl) fr_nil))⟩ (by rfl) (pi_range2 (by rfl) T.z_range (pa_cons pe_int (pa_cons (pe_callB (call_lenK K) (by rfl) T.z_len bt_len (pa_cons (pv 0) pa_nil)) pa_nil))) (fun _ _ _ _ => (pg_name (i := 0) (show List.Nodup (["k", "places"] : List Str) by decide) (by rfl) (by first | exact Or.inl rfl | exact Or.inr rfl))) (fun _ _ _ _ => pifs_nil) (fun _ _ _ _ => (pe_callN C_law_wide (hr.mono (by decide)) (by rfl) (pa_cons (pe_ix (ix_K K) (pv 1) (pv 0) (by exact fun _ _ => rfl)) (pa_cons (pe_ix (ix_K K) (pv 1) (pe_op op_sub (pv 0) pe_int) (by exact fun _ _ => rfl)) pa_nil)))) (gw_name (by rfl))) pa_nil)))), ?_⟩
    dsimp only [tSeq, tAsg, gName, tOp, tUn, tTest, tB, tAnd, tOr, tNot, tAndV, tOrV, tNotV, tIf, tIfS, tRet, tRetN, tDrop, tNext, tCons, tNil, tCB, tCall, tMenu, tComp, iZip2, iEnum, tNoIf, tTru, tJoin, cxOf_K, tLst, tTup, tSl, tPart, tNoPart, tBM, tBM0, tChain, tC, tFor_eq, gTup, gLst, gCons, gNil, gSub, iList, iRng1, iRng2, iRng3, iTup, iZip3, tWhile, tDelS, tBreak, tCont, tRev, tAug, tPar, tNever, ipI, List.append_nil]
    walk_at "st"
    refine i_lenI (SqL.of hA) ?_
    walk_at "st"
    refine ⟨_, _, rfl, ⟨by omega, by omega, by omega, by omega⟩, cp_range (fun i ys H2 => ∃ js : List Int, ys = iL js ∧ js.length = i ∧ H = H2 ∧ js.sum = wayL (xs.take (i + 1))) ⟨[], rfl, rfl, rfl, by rw [wayL_short (by simp; omega)]; rfl⟩ ?_ (szlt (by omega)) ?_ ?_⟩
    · rintro i ys H2 ⟨js, rfl, hj, _⟩
      simp [iL]; omega
    · rintro i ys H2 hi ⟨js, rfl, hj, rfl, hs⟩
      walk_at "st"
      refine i_ixL (SqL.of hA) (by omega) (by omega) (fun y hy _ => ?_)
      walk_at "st"
      refine i_ixL (SqL.of hA) (by omega) (by omega) (fun x hx _ => ?_)
      walk_at "st"
      refine ⟨y, x, rfl, ?_⟩
      rw [show (1 + (i : Int)).toNat = i + 1 by omega] at hy
      rw [show (1 + (i : Int) - 1).toNat = i by omega] at hx
      refine ⟨js ++ [max y x - min y x], by simp [iL], by simp; omega, rfl, ?_⟩
      rw [List.sum_append, hs, way_take hx hy]
      simp
    · rintro l ys H2 ⟨js, rfl, hj, rfl, hs⟩ hl2
      walk_at "st"
      refine i_sum (SqL.of upd_same) ?_
      rw [hs, List.take_of_length_le (by omega)]
      exact k _ (same_upd hl2)
--SPLIT
theorem cut_m3 {A : List V} {a b c d : V} : cutV (A ++ [a, b, c, d]) none (some (-3)) = A ++ [a] := by
  unfold cutV
  rw [show ((-3 : Int)) = -((3 : Nat) : Int) from rfl, sIx_neg _ _ (by decide), sIx_none, List.drop_zero, Nat.sub_zero]
  rw [show (A ++ [a, b, c, d]).length - 3 = (A ++ [a]).length by simp, show A ++ [a, b, c, d] = (A ++ [a]) ++ [b, c, d] by simp, List.take_left]
theorem i_slM3 {H : Hp} {Q : VK} {p : Addr} {A : List V} {a b c d : V} (h : SqL K H p (A ++ [a, b, c, d])) (q : ∀ l, H l = none → Q (.ref l) (upd H l (.lst (A ++ [a])))) : rSlL K (.ref p) none (some (-3)) H Q :=
  ⟨p, _, rfl, h, fun l hl => by rw [cut_m3]; exact q l hl⟩
theorem i_ixEnd {H : Hp} {Q : VK} {p : Addr} {A B : List Int} {v k : Int} (h : H p = some (.lst (iL (A ++ v :: B)))) (hk : k = -((B.length : Int) + 1)) (q : Q (.int v) H) : rIxP K (.ref p) (.int k) H Q := by
  refine i_ixNeg (SqL.of h) (by omega) (by simp [iL]; omega) (v := .int v) ?_ q
  rw [show (k + ((iL (A ++ v :: B)).length : Int)).toNat = A.length by simp [iL]; omega, List.getElem?_map, List.getElem?_append_right (Nat.le_refl _)]
  simp
theorem ab_mm (a b : Int) : ab (b - a) = max a b - min a b := by unfold ab; split <;> omega
def spPile : Sp := fun vs H Q _ => ∃ (a : Addr) (T : List Int), vs = [.ref a] ∧ H a = some (.lst (iL T)) ∧ T.length ≤ 20000 ∧
  ∀ (t l1 l2 : Addr) (ts : List Addr) (prs : List (Int × Int)) (pile : List Int) H', Same H H' → H' t = some (.tup [.ref l1, .ref l2]) → H' l1 = some (.lst (ts.map V.ref)) → MsAt H' ts prs → H' l2 = some (.lst (iL pile)) → (pile, prs) = swF T [] [] → Q (.ref t) H'
theorem ok_law_a_pile (T : Txt mg) (D : Def K mg "_law_a_pile" s_law_a_pile) (C_law_wide : Callee P w K mg base "_law_wide" 1 spWd) : Callee P w K mg base "_law_a_pile" 2 spPile := by
  refine D.ok sc_law_a_pile bd_law_a_pile (fun vs H Q E h => ?len) (fun f cdv A outer s H vs Q E hr h => ?body)
  case len => obtain ⟨a, T, rfl, _⟩ := h; rfl
  case body =>
    obtain ⟨a, tr, rfl, hA, hTl, k⟩ := h
    have hu := hr.units
    refine ⟨_, (pss_cons (ps_set (i := 1) sc_law_a_pile.nd rfl (Or.inl rfl) (pe_lst pa_nil))
 (pss_cons (ps_set (i := 2) sc_law_a_pile.nd rfl (Or.inl rfl) (pe_lst pa_nil))
 (pss_cons (ps_for PassesOwn.never rfl (pi_listK K (pv 0)) (pg_name (i := 3) sc_law_a_pile.nd rfl (Or.inl rfl))
 (pss_cons (ps_set (i := 2) sc_law_a_pile.nd rfl (Or.inl rfl) (pe_op op_addP (pv 2) (pe_lst (pa_cons (pv 3) pa_nil))))
 (pss_one (ps_while PassesOwn.never (pt_cmpR op_gt (pe_callB (call_lenK K) (by rfl) T.z_len bt_len (pa_cons (pv 2) pa_nil)) pe_int (nomark _))
 (pss_cons (ps_set (i := 4) sc_law_a_pile.nd rfl (Or.inl rfl) (pe_callN C_law_wide (hr.mono (by decide)) (by rfl) (pa_cons (pe_ix (ix_K K) (pv 2) (pe_negK (r := -3) (by decide)) (by exact fun _ _ => rfl)) (pa_cons (pe_ix (ix_K K) (pv 2) (pe_negK (r := -2) (by decide)) (by exact fun _ _ => rfl)) pa_nil))))
 (pss_cons (ps_set (i := 5) sc_law_a_pile.nd rfl (Or.inl rfl) (pe_callB (call_minK K) (by rfl) T.z_min bt_min (pa_cons (pe_callN C_law_wide (hr.mono (by decide)) (by rfl) (pa_cons (pe_ix (ix_K K) (pv 2) (pe_negK (r := -4) (by decide)) (by exact fun _ _ => rfl)) (pa_cons (pe_ix (ix_K K) (pv 2) (pe_negK (r := -3) (by decide)) (by exact fun _ _ => rfl)) pa_nil))) (pa_cons (pe_callN C_law_wide (hr.mono (by decide)) (by rfl) (pa_cons (pe_ix (ix_K K) (pv 2) (pe_negK (r := -2) (by decide)) (by exact fun _ _ => rfl)) (pa_cons (pe_ix (ix_K K) (pv 2) (pe_negK (r := -1) (by decide)) (by exact fun _ _ => rfl)) pa_nil))) pa_nil))))
 (pss_cons (ps_if (pt_cmpR op_gt (pv 4) (pv 5) (nomark _))
 (pss_one ps_break)
 pss_nil)
 (pss_cons (ps_expr (pe_bmK K PySem.F.plainAttrs_list PySem.F.slot_list_append PySem.F.type_list_append mt_append (pv 1) (pa_cons (pe_tup (pa_cons (pe_callB (call_minK K) (by rfl) T.z_min bt_min (pa_cons (pe_ix (ix_K K) (pv 2) (pe_negK (r := -3) (by decide)) (by exact fun _ _ => rfl)) (pa_cons (pe_ix (ix_K K) (pv 2) (pe_negK (r := -2) (by decide)) (by exact fun _ _ => rfl)) pa_nil))) (pa_cons (pe_callB (call_maxK K) (by rfl) T.z_max bt_max (pa_cons (pe_ix (ix_K K) (pv 2) (pe_negK (r := -3) (by decide)) (by exact fun _ _ => rfl)) (pa_cons (pe_ix (ix_K K) (pv 2) (pe_negK (r := -2) (by decide)) (by exact fun _ _ => rfl)) pa_nil))) pa_nil))) pa_nil)))
 (pss_one (ps_set (i := 2) sc_law_a_pile.nd rfl (Or.inl rfl) (pe_op op_addP (pe_slice (sl_listK K) (pv 2) po_none (po_some (pe_negK (r := -3) (by decide)))) (pe_lst (pa_cons (pv 3) pa_nil)))))))))))))
 (pss_one (ps_ret (pe_tup (pa_cons (pv 1) (pa_cons (pv 2) pa_nil)))))))), ?_⟩
    dsimp only [tSeq, tAsg, gName, tOp, tUn, tTest, tB, tAnd, tOr, tNot, tAndV, tOrV, tNotV, tIf, tIfS, tRet, tRetN, tDrop, tNext, tCons, tNil, tCB, tCall, tMenu, tComp, iZip2, iEnum, tNoIf, tTru, tJoin, cxOf_K, tLst, tTup, tSl, tPart, tNoPart, tBM, tBM0, tChain, tC, tFor_eq, gTup, gLst, gCons, gNil, gSub, iList, iRng1, iRng2, iRng3, iTup, iZip3, tWhile, tDelS, tBreak, tCont, tRev, tAug, tPar, tNever, ipI, List.append_nil]
    walk_at "st"
    intro l1 h1
    walk_at "st"
    intro l2 h2
    have s2 : Same H _ := (same_upd (o := .lst []) h1).trans (same_upd (o := .lst []) h2)
    have n12 : l1 ≠ l2 := fun z => by rw [← z, upd_same] at h2; cases h2
    have e1 : upd (upd H l1 (.lst [])) l2 (.lst []) l1 = some (.lst (([] : List Addr).map V.ref)) := by rw [upd_ne n12]; exact upd_same
    have e2 : upd (upd H l1 (.lst [])) l2 (.lst []) l2 = some (.lst (iL [])) := upd_same
    generalize upd (upd H l1 (.lst [])) l2 (.lst []) = H2 at *
    walk_at "st"
    refine ⟨⟨_, SqL.of (s2 _ _ hA)⟩, lp_ints (ns := tr) (fun i σ H4 => ∃ (lp : Addr) (u3 u4 u5 : Option V) (ts : List Addr) (prs : List (Int × Int)) (pile : List Int), σ = [some (.ref a), some (.ref l1), some (.ref lp), u3, u4, u5] ∧ Same H H4 ∧ H4 l1 = some (.lst (ts.map V.ref)) ∧ MsAt H4 ts prs ∧ H4 lp = some (.lst (iL pile)) ∧ lp ≠ l1 ∧ pile.length + 2 * prs.length = i ∧ swF tr [] [] = swF (tr.drop i) pile prs) ?_ ?_ ?_ ?_⟩
    · exact ⟨l2, _, _, _, [], [], [], rfl, s2, e1, .nil, e2, n12.symm, rfl, rfl⟩
    · rintro i σ H4 _ ⟨lp, u3, u4, u5, ts, prs, pile, rfl, sm, _⟩
      exact SqL.of (sm _ _ hA)
    · rintro i x σ H4 hx ⟨lp, u3, u4, u5, ts, prs, pile, rfl, sm, hL, hM, hP, np, hlen, hsf⟩
      have hil : i < tr.length := (List.getElem?_eq_some_iff.mp hx).1
      walk_at "st"
      intro g1 hg1
      walk_at "st"
      refine i_addL (a := lp) (b := g1) (xs := iL pile) (ys := [.int x]) (same_upd hg1 _ _ hP) upd_same (szl (by simp [iL]; omega)) (fun lq hlq => ?_)
      have s5 : Same H4 _ := (same_upd (o := .lst [.int x]) hg1).trans (same_upd (o := .lst (iL pile ++ [.int x])) hlq)
      have e5 : upd (upd H4 g1 (.lst [.int x])) lq (.lst (iL pile ++ [.int x])) lq = some (.lst (iL (pile ++ [x]))) := by rw [upd_same]; simp [iL]
      have nq : lq ≠ l1 := fun z => by rw [z] at hlq; rw [same_upd hg1 _ _ hL] at hlq; cases hlq
      generalize upd (upd H4 g1 (.lst [.int x])) lq (.lst (iL pile ++ [.int x])) = H5 at *
      have hsf2 : ∃ n, (pile ++ [x]).length ≤ n ∧ swF tr [] [] = swF (tr.drop (i + 1)) (swW n (pile ++ [x]) prs).1 (swW n (pile ++ [x]) prs).2 := by
        refine ⟨pile.length + 1, by simp, ?_⟩
        rw [hsf, dropc hx]
        rfl
      walk_at "st"
      refine ⟨fun m σ H6 => ∃ (lp : Addr) (u4 u5 : Option V) (ts : List Addr) (prs : List (Int × Int)) (B : List Int), σ = [some (.ref a), some (.ref l1), some (.ref lp), some (.int x), u4, u5] ∧ Same H H6 ∧ H6 l1 = some (.lst (ts.map V.ref)) ∧ MsAt H6 ts prs ∧ H6 lp = some (.lst (iL (B ++ [x]))) ∧ lp ≠ l1 ∧ (B ++ [x]).length + 2 * prs.length = i + 1 ∧ m = B.length ∧ ∃ n, (B ++ [x]).length ≤ n ∧ swF tr [] [] = swF (tr.drop (i + 1)) (swW n (B ++ [x]) prs).1 (swW n (B ++ [x]) prs).2, ⟨_, lq, _, _, ts, prs, pile, rfl, sm.trans s5, s5 _ _ hL, hM.more s5, e5, nq, by simp; omega, rfl, hsf2⟩, ?_⟩
      clear hsf2 hsf hlen hP hL hM sm np s5 e5 nq hlq hg1
      rintro m σ H6 ⟨lp, u4, u5, ts, prs, B, rfl, sm, hL, hM, hP, np, hlen, rfl, nf, hnf, hsf⟩
      have hMl : ts.length = prs.length := hM.length
      walk_at "st"
      refine i_lenI (SqL.of hP) ?_
      walk_at "st"
      refine i_if (fun g => ?_) (fun g => ?_)
      · obtain ⟨A, p1, p2, p3, p4, e⟩ := four_of (pile := B ++ [x]) (by omega)
        have e' : B ++ [x] = (A ++ [p1, p2, p3]) ++ [p4] := by simpa using e
        obtain ⟨rfl, e3⟩ := List.append_inj' e' rfl
        obtain rfl : x = p4 := by simpa using e3
        clear e e' e3
        have ePi : A ++ [p1, p2, p3] ++ [x] = A ++ [p1, p2, p3, x] := by simp
        rw [ePi] at hP hlen hnf hsf
        have hPl : (A ++ [p1, p2, p3, x]).length = A.length + 4 := by simp
        have q1 : ∀ {HH : Hp} {Q' : VK}, Same H6 HH → Q' (.int x) HH → rIxP K (.ref lp) (.int (-1)) HH Q' := fun s q => i_ixEnd (A := A ++ [p1, p2, p3]) (B := []) (by rw [s _ _ hP]; simp) rfl q
        have q2 : ∀ {HH : Hp} {Q' : VK}, Same H6 HH → Q' (.int p3) HH → rIxP K (.ref lp) (.int (-2)) HH Q' := fun s q => i_ixEnd (A := A ++ [p1, p2]) (B := [x]) (by rw [s _ _ hP]; simp) rfl q
        have q3 : ∀ {HH : Hp} {Q' : VK}, Same H6 HH → Q' (.int p2) HH → rIxP K (.ref lp) (.int (-3)) HH Q' := fun s q => i_ixEnd (A := A ++ [p1]) (B := [p3, x]) (by rw [s _ _ hP]; simp) rfl q
        have q4 : ∀ {HH : Hp} {Q' : VK}, Same H6 HH → Q' (.int p1) HH → rIxP K (.ref lp) (.int (-4)) HH Q' := fun s q => i_ixEnd (A := A) (B := [p2, p3, x]) (by rw [s _ _ hP]) rfl q
        have hSf : hasS (A ++ [p1, p2, p3, x]) = (decide (max p2 p3 - min p2 p3 ≤ max p1 p2 - min p1 p2) && decide (max p2 p3 - min p2 p3 ≤ max p3 x - min p3 x)) := by
          rw [← hasSw_eq, hasSw_four, ab_mm, ab_mm, ab_mm]
        refine ⟨fun σ H8 => ∃ (lp : Addr) (u4 u5 : Option V) (ts : List Addr), σ = [some (.ref a), some (.ref l1), some (.ref lp), some (.int x), u4, u5] ∧ hasS (A ++ [p1, p2, p3, x]) = true ∧ Same H H8 ∧ H8 l1 = some (.lst (ts.map V.ref)) ∧ MsAt H8 ts (prs ++ [(min p2 p3, max p2 p3)]) ∧ H8 lp = some (.lst (iL (A ++ [p1] ++ [x]))) ∧ lp ≠ l1, ?_, ?_⟩
        · rintro σ H8 ⟨lp8, u48, u58, ts8, rfl, hsw, sm8, hL8, hM8, hP8, np8⟩
          refine ⟨(A ++ [p1]).length, by simp, lp8, _, _, ts8, _, _, rfl, sm8, hL8, hM8, hP8, np8, by simp at hlen ⊢; omega, rfl, ?_⟩
          obtain ⟨n', rfl⟩ : ∃ n', nf = n' + 1 := ⟨nf - 1, by omega⟩
          refine ⟨n', by simp at hnf ⊢; omega, ?_⟩
          rw [hsf, swW, if_pos hsw, delS_four, prS_four]
          simp only [List.append_assoc, List.cons_append, List.nil_append]
        · walk_at "st"
          refine q3 (Same.refl _) ?_
          walk_at "st"
          refine q2 (Same.refl _) ?_
          walk_at "st"
          refine ⟨p2, p3, rfl, ?_⟩
          walk_at "st"
          refine q4 (Same.refl _) ?_
          walk_at "st"
          refine q3 (Same.refl _) ?_
          walk_at "st"
          refine ⟨p1, p2, rfl, ?_⟩
          walk_at "st"
          refine q2 (Same.refl _) ?_
          walk_at "st"
          refine q1 (Same.refl _) ?_
          walk_at "st"
          refine ⟨p3, x, rfl, ?_⟩
          walk_at "st"
          refine i_min2 (fun wd ewd => ?_)
          walk_at "st"
          refine i_if (fun gi => ?_) (fun gi => ?_)
          · have hns : ¬ hasS (A ++ [p1, p2, p3, x]) = true := by
              rw [hSf, Bool.and_eq_true, decide_eq_true_eq, decide_eq_true_eq]
              omega
            have e0 : swW nf (A ++ [p1, p2, p3, x]) prs = (A ++ [p1, p2, p3, x], prs) := by
              cases nf with
              | zero => rfl
              | succ n => rw [swW, if_neg hns]
            rw [e0] at hsf
            walk_at "st"
            exact ⟨lp, _, _, _, ts, prs, _, rfl, sm, hL, hM, hP, np, hlen, hsf⟩
          · have hsw : hasS (A ++ [p1, p2, p3, x]) = true := by
              rw [hSf, Bool.and_eq_true, decide_eq_true_eq, decide_eq_true_eq]
              omega
            walk_at "st"
            refine ⟨.inl ⟨rfl, _, SqL.of hL⟩, ?_⟩
            walk_at "st"
            refine q3 (Same.refl _) ?_
            walk_at "st"
            refine q2 (Same.refl _) ?_
            walk_at "st"
            refine i_min2 (fun mn emn => ?_)
            walk_at "st"
            refine q3 (Same.refl _) ?_
            walk_at "st"
            refine q2 (Same.refl _) ?_
            walk_at "st"
            refine i_max2 (fun mx emx => ?_)
            walk_at "st"
            subst emn emx
            intro t ht
            have s8 := same_upd (o := .tup [.int (min p2 p3), .int (max p2 p3)]) ht
            have e8 : upd H6 t (.tup [.int (min p2 p3), .int (max p2 p3)]) t = some (.tup [.int (min p2 p3), .int (max p2 p3)]) := upd_same
            have hL8 := s8 _ _ hL
            have hM8 := hM.more s8
            have hP8 := s8 _ _ hP
            have sm8 := sm.trans s8
            generalize upd H6 t (.tup [.int (min p2 p3), .int (max p2 p3)]) = H8 at *
            walk_at "st"
            refine i_app hL8 (szlt (by rw [List.length_map]; omega)) ?_
            have ntl : t ≠ l1 := fun z => by rw [z, hL8] at e8; cases e8
            have sm9 : Same H (upd H8 l1 (.lst (ts.map V.ref ++ [V.ref t]))) := fun b o z => by rw [upd_ne (ne_of_none z h1)]; exact sm8 b o z
            have hL9 : upd H8 l1 (.lst (ts.map V.ref ++ [V.ref t])) l1 = some (.lst ((ts ++ [t]).map V.ref)) := by rw [upd_same]; simp
            have hM9 : MsAt (upd H8 l1 (.lst (ts.map V.ref ++ [V.ref t]))) (ts ++ [t]) (prs ++ [(min p2 p3, max p2 p3)]) := Paired.snoc (hM8.up hL8) (by rw [upd_ne ntl]; exact e8)
            have hP9 : upd H8 l1 (.lst (ts.map V.ref ++ [V.ref t])) lp = some (.lst (iL (A ++ [p1, p2, p3, x]))) := by rw [upd_ne np]; exact hP8
            generalize upd H8 l1 (.lst (ts.map V.ref ++ [V.ref t])) = H9 at *
            walk_at "st"
            refine i_slM3 (A := iL A) (a := .int p1) (b := .int p2) (c := .int p3) (d := .int x) (SqL.of (by rw [hP9]; simp [iL])) (fun g2 hg2 => ?_)
            walk_at "st"
            intro g3 hg3
            walk_at "st"
            refine i_addL (a := g2) (b := g3) (xs := iL A ++ [.int p1]) (ys := [.int x]) (same_upd hg3 _ _ upd_same) upd_same (szl (by simp [iL] at hlen ⊢; omega)) (fun lq hlq => ?_)
            have s10 : Same H9 _ := ((same_upd (o := .lst (iL A ++ [.int p1])) hg2).trans (same_upd (o := .lst [.int x]) hg3)).trans (same_upd (o := .lst (iL A ++ [.int p1] ++ [.int x])) hlq)
            have s9b : Same H9 (upd (upd H9 g2 (.lst (iL A ++ [.int p1]))) g3 (.lst [.int x])) := (same_upd hg2).trans (same_upd hg3)
            have nq : lq ≠ l1 := fun z => by
              rw [z, s9b _ _ hL9] at hlq
              cases hlq
            walk_at "st"
            exact ⟨lq, _, _, ts ++ [t], rfl, hsw, sm9.trans s10, s10 _ _ hL9, hM9.more s10, by rw [upd_same]; simp [iL], nq⟩
      · have e0 : swW nf (B ++ [x]) prs = (B ++ [x], prs) := by
          cases nf with
          | zero => rfl
          | succ n => rw [swW, if_neg (by rw [← hasSw_eq, hasSw_short (by omega)]; decide)]
        rw [e0] at hsf
        exact ⟨lp, _, _, _, ts, prs, _, rfl, sm, hL, hM, hP, np, hlen, hsf⟩
    · rintro σ H4 ⟨lp, u3, u4, u5, ts, prs, pile, rfl, sm, hL, hM, hP, np, hlen, hsf⟩
      walk_at "st"
      intro t ht
      have s5 := same_upd (o := .tup [.ref l1, .ref lp]) ht
      rw [List.drop_of_length_le (Nat.le_refl _)] at hsf
      exact k t l1 lp ts prs pile _ (sm.trans s5) upd_same (s5 _ _ hL) (hM.more s5) (s5 _ _ hP) (by rw [hsf]; rfl)
--SPLIT
theorem pd_prs {H : Hp} {l : Addr} {ts : List Addr} {ps : List (Int × Int)} {n : Nat} (h : H l = some (.lst (ts.map V.ref))) (hM : MsAt H ts ps) : PdAt K H (n + 2) (.list (ps.map fun p => .tuple [.int p.1, .int p.2])) (.ref l) := by
  refine pd_lst (SqL.of h) ?_
  clear h
  induction hM with
  | nil => exact .nil
  | cons r _ ih => exact .cons (pd_tup (SqT.of r) (.cons pd_int (.cons pd_int .nil))) ih
theorem i_listT {H : Hp} {Q : VK} {p : Addr} {ys : List V} (h : SqT K H p ys) (q : ∀ l, H l = none → Q (.ref l) (upd H l (.lst ys))) : rListOf K [.ref p] H Q := ⟨p, ys, rfl, .inr h, q⟩
theorem ok_law {f : Addr} {fd : FuncData} (F : Fun K "law" "law" s_law f fd) (T : Txt mg) (C_law_wide_row : Callee P w K mg base "_law_wide_row" 2 (spWide K)) (C_law_so_swings_of : Callee P w K mg base "_law_so_swings_of" 4 (spSoSw K)) (C_law_so_turning_of : Callee P w K mg base "_law_so_turning_of" 3 (sp_law_so_turning_of K)) (C_law_a_pile : Callee P w K mg base "_law_a_pile" 2 spPile) (C_law_a_places : Callee P w K mg base "_law_a_places" 2 spPlaces) (C_law_a_far : Callee P w K mg base "_law_a_far" 2 (spFarW K)) :
    FnOk P w K mg base CX0 5 f fd ["script"] (spLaw K) := by
  refine F.ok sc_law (fun vs H Q E h => ?_) (fun cdv A outer s H vs Q E hr h => ?_)
  · obtain ⟨a, ns, rfl, _⟩ := h
    rfl
  · obtain ⟨a, ns, rfl, hS, hlen, k⟩ := h
    have hu := hr.units
    refine ⟨_, (pss_cons (ps_set (i := 1) sc_law.nd rfl (Or.inl rfl) (pe_callN C_law_wide_row (hr.mono (by decide)) (by rfl) (pa_cons (pv 0) (pa_cons pe_int pa_nil))))
 (pss_cons (ps_set (i := 2) sc_law.nd rfl (Or.inl rfl) (pe_callTy (call_listK K) (by rfl) T.z_list bt_list (pa_cons (pv 1) pa_nil)))
 (pss_cons (ps_set (i := 3) sc_law.nd rfl (Or.inl rfl) (pe_callN C_law_so_swings_of (hr.mono (by decide)) (by rfl) (pa_cons (pv 2) pa_nil)))
 (pss_cons (ps_set (i := 4) sc_law.nd rfl (Or.inl rfl) (pe_callN C_law_so_turning_of (hr.mono (by decide)) (by rfl) (pa_cons (pv 1) pa_nil)))
 (pss_cons (ps_if (PW.pt (pw_or (pt_cmpR (op_neK K hu) (pv 2) (pv 1) (nomark _)) (pw_or (pt_not (pt_truthK K (pe_callB (call_isinstanceK K) (by rfl) T.z_isinstance bt_isinstance (pa_cons (pv 3) (pa_cons (pe_bltn (by rfl) T.z_tuple bt_tuple (show RelV (.ty "tuple") _ from rfl)) pa_nil))))) (pw_or1 (pt_cmpR (op_neK K hu) (pv 3) (pe_callN C_law_a_pile (hr.mono (by decide)) (by rfl) (pa_cons (pv 4) pa_nil)) (nomark _))))))
 (pss_one (ps_ret pe_bl))
 pss_nil)
 (pss_cons (ps_asg (pv 3) (pg_tupK K 2 (pgs_cons (pg_name (i := 5) sc_law.nd rfl (Or.inl rfl)) (pgs_cons (pg_name (i := 6) sc_law.nd rfl (Or.inl rfl)) pgs_nil))))
 (pss_cons (ps_if (PW.pt (pw_or (pt_not (pt_truthK K (pe_callB (call_isinstanceK K) (by rfl) T.z_isinstance bt_isinstance (pa_cons (pv 5) (pa_cons (pe_bltn (by rfl) T.z_list bt_list (show RelV (.ty "list") _ from rfl)) pa_nil))))) (pw_or1 (pt_not (pt_truthK K (pe_callN C_law_a_places (hr.mono (by decide)) (by rfl) (pa_cons (pv 6) (pa_cons (pe_callB (call_lenK K) (by rfl) T.z_len bt_len (pa_cons (pv 6) pa_nil)) pa_nil))))))))
 (pss_one (ps_ret pe_bl))
 pss_nil)
 (pss_cons (ps_set (i := 7) sc_law.nd rfl (Or.inl rfl) (pe_callTy (call_listK K) (by rfl) T.z_list bt_list (pa_cons (pv 6) pa_nil)))
 (pss_cons (ps_set (i := 8) sc_law.nd rfl (Or.inl rfl) (pe_callN C_law_a_far (hr.mono (by decide)) (by rfl) (pa_cons (pv 6) pa_nil)))
 (pss_cons (ps_for PassesOwn.never rfl (pi_listK K (pv 5)) (pg_name (i := 9) sc_law.nd rfl (Or.inl rfl))
 (pss_cons (ps_if (PW.pt (pw_or (pt_not (pt_truthK K (pe_callB (call_isinstanceK K) (by rfl) T.z_isinstance bt_isinstance (pa_cons (pv 9) (pa_cons (pe_bltn (by rfl) T.z_tuple bt_tuple (show RelV (.ty "tuple") _ from rfl)) pa_nil))))) (pw_or (pt_not (pt_truthK K (pe_callN C_law_a_places (hr.mono (by decide)) (by rfl) (pa_cons (pe_callTy (call_listK K) (by rfl) T.z_list bt_list (pa_cons (pv 9) pa_nil)) (pa_cons pe_int pa_nil))))) (pw_or1 (pt_cmpR op_ge (pe_ix (ix_K K) (pv 9) pe_int (by exact fun _ _ => rfl)) (pe_ix (ix_K K) (pv 9) pe_int (by exact fun _ _ => rfl)) (nomark _))))))
 (pss_one (ps_ret pe_bl))
 pss_nil)
 (pss_cons (ps_set (i := 7) sc_law.nd rfl (Or.inl rfl) (pe_op op_addP (pv 7) (pe_callTy (call_listK K) (by rfl) T.z_list bt_list (pa_cons (pv 9) pa_nil))))
 (pss_one (ps_set (i := 8) sc_law.nd rfl (Or.inl rfl) (pe_op op_addP (pv 8) (pe_op op_mulP pe_int (pe_op op_sub (pe_ix (ix_K K) (pv 9) pe_int (by exact fun _ _ => rfl)) (pe_ix (ix_K K) (pv 9) pe_int (by exact fun _ _ => rfl))))))))))
 (pss_cons (ps_if (PW.pt (pw_or (pt_cmpR (op_neK K hu) (pe_callB (call_sortedAK K) (by rfl) T.z_sorted bt_sorted (pa_cons (pv 7) pa_nil)) (pe_callB (call_sortedAK K) (by rfl) T.z_sorted bt_sorted (pa_cons (pv 4) pa_nil)) (nomark _)) (pw_or1 (pt_cmpR (op_neK K hu) (pv 8) (pe_callN C_law_a_far (hr.mono (by decide)) (by rfl) (pa_cons (pv 1) pa_nil)) (nomark _)))))
 (pss_one (ps_ret pe_bl))
 pss_nil)
 (pss_cons (ps_expr (pe_bmK K PySem.F.plainAttrs_list PySem.F.slot_list_append PySem.F.type_list_append mt_append (pv 5) (pa_cons (pe_tup (pa_cons pe_int (pa_cons pe_int pa_nil))) pa_nil)))
 (pss_cons (ps_expr (pe_bmK K PySem.F.plainAttrs_list PySem.F.slot_list_append PySem.F.type_list_append mt_append (pv 6) (pa_cons pe_int pa_nil)))
 (pss_one (ps_ret (pe_cmpR (op_eqK K hu) (pe_callN C_law_so_swings_of (hr.mono (by decide)) (by rfl) (pa_cons (pv 1) pa_nil)) (pe_callN C_law_a_pile (hr.mono (by decide)) (by rfl) (pa_cons (pv 4) pa_nil)) (nomark _))))))))))))))))), ?_⟩
    dsimp only [tSeq, tAsg, gName, tOp, tUn, tTest, tB, tAnd, tOr, tNot, tAndV, tOrV, tNotV, tIf, tIfS, tRet, tRetN, tDrop, tNext, tCons, tNil, tCB, tCall, tMenu, tComp, iZip2, iEnum, tNoIf, tTru, tJoin, cxOf_K, tLst, tTup, tSl, tPart, tNoPart, tBM, tBM0, tChain, tC, tFor_eq, gTup, gLst, gCons, gNil, gSub, iList, iRng1, iRng2, iRng3, iTup, iZip3, tWhile, tDelS, tBreak, tCont, tRev, tAug, tPar, tNever, ipI, List.append_nil]
    walk_at "st"
    refine ⟨a, ns, 0, rfl, hS, by decide, fun lr H1 row N1 hrl => ?_⟩
    walk_at "st"
    refine i_listL (SqL.of N1.at_) (fun lh hlh => ?_)
    have hR2 := same_upd (o := .lst (iL row)) hlh _ _ N1.at_
    have eH : upd H1 lh (.lst (iL row)) lh = some (.lst (iL row)) := upd_same
    generalize upd H1 lh (.lst (iL row)) = H2 at *
    clear N1 hlh
    walk_at "st"
    refine ⟨lh, row, rfl, eH, by omega, fun t ls lf ts ps lx H3 s3 et els hM elf q1 q2 hsw f1 f2 n12 => ?_⟩
    have nrs : lr ≠ ls := ne_of_none hR2 f1
    have nrf : lr ≠ lf := ne_of_none hR2 f2
    walk_at "st"
    refine ⟨lr, row, rfl, s3 _ _ hR2, by omega, fun lt H4 N4 => ?_⟩
    have htl := turn_length row
    have hPI := pile_all (turn_alt row)
    have hwy := turn_way row
    have hT4 := N4.at_
    have nts : lt ≠ ls := fun z => by have := N4.fr; rw [z, els] at this; cases this
    have ntf : lt ≠ lf := fun z => by have := N4.fr; rw [z, elf] at this; cases this
    have S4 := s3.trans N4.sm
    replace et := N4.sm _ _ et
    replace els := N4.sm _ _ els
    replace hM := hM.more N4.sm
    replace elf := N4.sm _ _ elf
    have hR4 := S4 _ _ hR2
    have eH4 := S4 _ _ eH
    clear N4 S4 s3 hR2 eH f1 f2
    generalize htr : turn (moves row) = tr at *
    rw [← hsw] at hPI
    walk_at "st"
    refine i_neL (SqL.of eH4) (SqL.of hR4) ?_
    walk_at "st"
    refine i_ifn (fun g => absurd rfl g) (fun _ => ?_)
    walk_at "st"
    refine i_isiTT et ?_
    walk_at "st"
    refine ⟨lt, tr, rfl, hT4, by omega, fun t5 m1 m2 ts5 ps5 lx5 H5 s5 e5 em1 hM5 em2 hsw5 => ?_⟩
    obtain ⟨rfl, rfl⟩ : lx5 = lx ∧ ps5 = ps := by
      have := hsw5.trans hsw.symm
      exact ⟨congrArg Prod.fst this, congrArg Prod.snd this⟩
    walk_at "st"
    refine i_neSame (.tuple [.list (ps5.map fun p => .tuple [.int p.1, .int p.2]), pL lx5]) (pd_tup (SqT.of (s5 _ _ et)) (.cons (pd_prs (s5 _ _ els) (hM.more s5)) (.cons (pd_ints (SqL.of (s5 _ _ elf))) .nil))) (pd_tup (SqT.of e5) (.cons (pd_prs em1 hM5) (.cons (pd_ints (SqL.of em2)) .nil))) ?_
    replace et := s5 _ _ et
    replace els := s5 _ _ els
    replace hM := hM.more s5
    replace elf := s5 _ _ elf
    replace hT4 := s5 _ _ hT4
    replace hR4 := s5 _ _ hR4
    clear eH4 e5 em1 hM5 em2 hsw5 s5
    walk_at "st"
    refine ⟨_, _, rfl, SqT.of et, rfl, _, _, rfl, _, _, rfl, rfl, ?_⟩
    walk_at "st"
    refine i_isiLL els ?_
    walk_at "st"
    refine i_lenI (SqL.of elf) ?_
    walk_at "st"
    refine ⟨lf, lx5, _, rfl, elf, rfl, by omega, fun H6 s6 => ?_⟩
    replace els := s6 _ _ els
    replace hM := hM.more s6
    replace elf := s6 _ _ elf
    replace hT4 := s6 _ _ hT4
    replace hR4 := s6 _ _ hR4
    clear s6 et
    walk_at "st"
    refine i_listL (SqL.of elf) (fun l7 h7 => ?_)
    have s7 := same_upd (o := .lst (iL lx5)) h7
    have e7 : upd H6 l7 (.lst (iL lx5)) l7 = some (.lst (iL lx5)) := upd_same
    replace els := s7 _ _ els
    replace hM := hM.more s7
    replace elf := s7 _ _ elf
    replace hT4 := s7 _ _ hT4
    replace hR4 := s7 _ _ hR4
    generalize upd H6 l7 (.lst (iL lx5)) = H7 at *
    clear s7 h7
    walk_at "st"
    refine ⟨lf, lx5, rfl, elf, by omega, fun H8 s8 => ?_⟩
    replace els := s8 _ _ els
    replace hM := hM.more s8
    replace elf := s8 _ _ elf
    replace hT4 := s8 _ _ hT4
    replace hR4 := s8 _ _ hR4
    replace e7 := s8 _ _ e7
    clear s8
    have hMl : ts.length = ps5.length := hM.length
    walk_at "st"
    refine ⟨⟨_, SqL.of els⟩, lp_list (xs := ts.map V.ref) (fun i σ H9 => ∃ (lq : Addr) (u9 : Option V), σ = [some (.ref a), some (.ref lr), some (.ref lh), some (.ref t), some (.ref lt), some (.ref ls), some (.ref lf), some (.ref lq), some (.int (wayL lx5 + 2 * tot (ps5.take i))), u9] ∧ Same H8 H9 ∧ H9 lq = some (.lst (iL (lx5 ++ flat (ps5.take i)))) ∧ (flat (ps5.take i)).length = 2 * i) ?_ ?_ ?_ ?_⟩
    · exact ⟨l7, none, by rw [show wayL lx5 + 2 * tot (ps5.take 0) = wayL lx5 by simp [tot]]; rfl, Same.refl _, by simpa [flat] using e7, by simp [flat]⟩
    · rintro i σ H9 _ ⟨lq, u9, rfl, sm, _⟩
      exact SqL.of (sm _ _ els)
    · rintro i x σ H9 hx ⟨lq, u9, rfl, sm, eq, hfl⟩
      rw [List.getElem?_map] at hx
      obtain ⟨ti, hti, rfl⟩ := Option.map_eq_some_iff.mp hx
      obtain ⟨p, hpi, hTp⟩ := paired_getL hM hti
      have hil : i < ps5.length := (List.getElem?_eq_some_iff.mp hpi).1
      have hplt := hPI.lt p (List.mem_of_getElem? hpi)
      replace hTp := sm _ _ hTp
      walk_at "st"
      refine i_isiTT hTp ?_
      walk_at "st"
      refine i_listT (SqT.of hTp) (fun g1 hg1 => ?_)
      have s10 := same_upd (o := .lst [.int p.1, .int p.2]) hg1
      have e10 : upd H9 g1 (.lst [.int p.1, .int p.2]) g1 = some (.lst (iL [p.1, p.2])) := upd_same
      generalize upd H9 g1 (.lst [.int p.1, .int p.2]) = H10 at *
      walk_at "st"
      refine ⟨g1, [p.1, p.2], 2, rfl, e10, rfl, by simp, fun H11 s11 => ?_⟩
      have sA := s10.trans s11
      replace hTp := sA _ _ hTp
      walk_at "st"
      refine i_ixT (SqT.of hTp) (by decide) (v := .int p.1) rfl ?_
      walk_at "st"
      refine i_ixT (SqT.of hTp) (by decide) (v := .int p.2) rfl ?_
      walk_at "st"
      refine i_if (fun g => absurd g (by omega)) (fun _ => ?_)
      walk_at "st"
      refine i_listT (SqT.of hTp) (fun g2 hg2 => ?_)
      have s12 := same_upd (o := .lst [.int p.1, .int p.2]) hg2
      have e12 : upd H11 g2 (.lst [.int p.1, .int p.2]) g2 = some (.lst (iL [p.1, p.2])) := upd_same
      generalize upd H11 g2 (.lst [.int p.1, .int p.2]) = H12 at *
      walk_at "st"
      refine i_addL (a := lq) (b := g2) (s12 _ _ (sA _ _ eq)) e12 (szl (by simp [iL, hfl]; omega)) (fun l13 h13 => ?_)
      have s13 := same_upd (o := .lst (iL (lx5 ++ flat (ps5.take i)) ++ iL [p.1, p.2])) h13
      have e13 : upd H12 l13 (.lst (iL (lx5 ++ flat (ps5.take i)) ++ iL [p.1, p.2])) l13 = some (.lst (iL (lx5 ++ flat (ps5.take (i + 1))))) := by
        rw [upd_same, take_snoc_get hpi, flat_snoc]
        simp [iL]
      generalize upd H12 l13 (.lst (iL (lx5 ++ flat (ps5.take i)) ++ iL [p.1, p.2])) = H13 at *
      replace hTp := s13 _ _ (s12 _ _ hTp)
      walk_at "st"
      refine i_ixT (SqT.of hTp) (by decide) (v := .int p.2) rfl ?_
      walk_at "st"
      refine i_ixT (SqT.of hTp) (by decide) (v := .int p.1) rfl ?_
      walk_at "st"
      refine i_mulI (cmul_l (by decide) (by decide)) ?_
      walk_at "st"
      refine ⟨l13, some (.ref ti), ?_, sm.trans (sA.trans (s12.trans s13)), e13, by rw [take_snoc_get hpi, flat_snoc, List.length_append, hfl]; simp; omega⟩
      rw [take_snoc_get hpi, tot_snoc, show wayL lx5 + 2 * (tot (ps5.take i) + (p.2 - p.1)) = wayL lx5 + 2 * tot (ps5.take i) + 2 * (p.2 - p.1) by omega]
      rfl
    rintro σ H9 ⟨lq, u9, rfl, sm, eq, hfl⟩
    rw [List.take_of_length_le (by simp; omega)] at eq hfl ⊢
    replace els := sm _ _ els
    replace elf := sm _ _ elf
    replace hT4 := sm _ _ hT4
    replace hR4 := sm _ _ hR4
    have hpm := hPI.pm
    have hw := hPI.wy
    simp only [List.append_nil] at hpm hw
    clear sm hM
    walk_at "st"
    refine i_sortA (SqL.of eq) (fun g1 ms1 hg1 hp1 hs1 => ?_)
    have s10 := same_upd (o := .lst (iL ms1)) hg1
    have e10 : upd H9 g1 (.lst (iL ms1)) g1 = some (.lst (iL ms1)) := upd_same
    generalize upd H9 g1 (.lst (iL ms1)) = H10 at *
    walk_at "st"
    refine i_sortA (SqL.of (s10 _ _ hT4)) (fun g2 ms2 hg2 hp2 hs2 => ?_)
    have s11 := same_upd (o := .lst (iL ms2)) hg2
    have e11 : upd H10 g2 (.lst (iL ms2)) g2 = some (.lst (iL ms2)) := upd_same
    generalize upd H10 g2 (.lst (iL ms2)) = H11 at *
    obtain rfl : ms1 = ms2 := sorted_one (hp1.trans (hpm.symm.trans hp2.symm)) hs1 hs2
    walk_at "st"
    refine i_neL (SqL.of (s11 _ _ e10)) (SqL.of e11) ?_
    walk_at "st"
    refine i_ifn (fun g => absurd rfl g) (fun _ => ?_)
    have sB := s10.trans s11
    replace els := sB _ _ els
    replace elf := sB _ _ elf
    replace hT4 := sB _ _ hT4
    replace hR4 := sB _ _ hR4
    clear sB s10 s11 e10 e11 eq
    walk_at "st"
    refine ⟨lr, row, rfl, hR4, by omega, fun H12 s12 => ?_⟩
    replace els := s12 _ _ els
    replace elf := s12 _ _ elf
    replace hT4 := s12 _ _ hT4
    replace hR4 := s12 _ _ hR4
    clear s12
    walk_at "st"
    refine i_ifn (fun g => absurd (by omega) g) (fun _ => ?_)
    walk_at "st"
    refine ⟨.inl ⟨rfl, _, SqL.of els⟩, ?_⟩
    walk_at "st"
    intro t7 h7
    have s13 := same_upd (o := .tup [.int 0, .int 1]) h7
    replace els := s13 _ _ els
    replace elf := s13 _ _ elf
    replace hT4 := s13 _ _ hT4
    replace hR4 := s13 _ _ hR4
    generalize upd H12 t7 (.tup [.int 0, .int 1]) = H13 at *
    walk_at "st"
    refine i_app els (szlt (by simp; omega)) ?_
    replace elf : upd H13 ls (.lst (ts.map V.ref ++ [V.ref t7])) lf = some (.lst (iL lx5)) := by rw [upd_ne n12.symm]; exact elf
    replace hT4 : upd H13 ls (.lst (ts.map V.ref ++ [V.ref t7])) lt = some (.lst (iL tr)) := by rw [upd_ne nts]; exact hT4
    replace hR4 : upd H13 ls (.lst (ts.map V.ref ++ [V.ref t7])) lr = some (.lst (iL row)) := by rw [upd_ne nrs]; exact hR4
    generalize upd H13 ls (.lst (ts.map V.ref ++ [V.ref t7])) = H14 at *
    walk_at "st"
    refine ⟨.inl ⟨rfl, _, SqL.of elf⟩, ?_⟩
    walk_at "st"
    refine i_app elf (szlt (by simp [iL]; omega)) ?_
    replace hT4 : upd H14 lf (.lst (iL lx5 ++ [.int 0])) lt = some (.lst (iL tr)) := by rw [upd_ne ntf]; exact hT4
    replace hR4 : upd H14 lf (.lst (iL lx5 ++ [.int 0])) lr = some (.lst (iL row)) := by rw [upd_ne nrf]; exact hR4
    generalize upd H14 lf (.lst (iL lx5 ++ [.int 0])) = H15 at *
    walk_at "st"
    refine ⟨lr, row, rfl, hR4, by omega, fun t8 ls8 lf8 ts8 ps8 lx8 H16 s16 et8 els8 hM8 elf8 _ _ hsw8 _ _ _ => ?_⟩
    walk_at "st"
    refine ⟨lt, tr, rfl, s16 _ _ hT4, by omega, fun t9 m1 m2 ts9 ps9 lx9 H17 s17 e9 em1 hM9 em2 hsw9 => ?_⟩
    rw [htr] at hsw8
    obtain ⟨rfl, rfl⟩ : lx9 = lx8 ∧ ps9 = ps8 := by
      have := hsw9.trans hsw8.symm
      exact ⟨congrArg Prod.fst this, congrArg Prod.snd this⟩
    walk_at "st"
    refine i_eqSame (.tuple [.list (ps9.map fun p => .tuple [.int p.1, .int p.2]), pL lx9]) (pd_tup (SqT.of (s17 _ _ et8)) (.cons (pd_prs (s17 _ _ els8) (hM8.more s17)) (.cons (pd_ints (SqL.of (s17 _ _ elf8))) .nil))) (pd_tup (SqT.of e9) (.cons (pd_prs em1 hM9) (.cons (pd_ints (SqL.of em2)) .nil))) ?_
    exact k _
end
theorem all_mk {l : PySem.W.OpenLaw} {w : World} {K : PySem.W.Frag} {h : Heap} {mg : Str → Option Value} {fa : Addr} (X : K.In h) (G : h.Ns mainGlobals mg) (hfa : mg "law" = some (.ref fa))
    {f_law_cell_at : Addr} {od_law_cell_at an_law_cell_at : Option Addr} {sl_law_cell_at : Array (Option Value)} {oc_law_cell_at kV_law_cell_at dc_law_cell_at pm_law_cell_at cd_law_cell_at ct_law_cell_at : Value}
    {f_law_draws : Addr} {od_law_draws an_law_draws : Option Addr} {sl_law_draws : Array (Option Value)} {oc_law_draws kV_law_draws dc_law_draws pm_law_draws cd_law_draws ct_law_draws : Value}
    {f_law_whole : Addr} {od_law_whole an_law_whole : Option Addr} {sl_law_whole : Array (Option Value)} {oc_law_whole kV_law_whole dc_law_whole pm_law_whole cd_law_whole ct_law_whole : Value}
    {f_law_a_places : Addr} {od_law_a_places an_law_a_places : Option Addr} {sl_law_a_places : Array (Option Value)} {oc_law_a_places kV_law_a_places dc_law_a_places pm_law_a_places cd_law_a_places ct_law_a_places : Value}
    {f_law_own : Addr} {od_law_own an_law_own : Option Addr} {sl_law_own : Array (Option Value)} {oc_law_own kV_law_own dc_law_own pm_law_own cd_law_own ct_law_own : Value}
    {f_moves_of : Addr} {od_moves_of an_moves_of : Option Addr} {sl_moves_of : Array (Option Value)} {oc_moves_of kV_moves_of dc_moves_of pm_moves_of cd_moves_of ct_moves_of : Value}
    {f_turning_of : Addr} {od_turning_of an_turning_of : Option Addr} {sl_turning_of : Array (Option Value)} {oc_turning_of kV_turning_of dc_turning_of pm_turning_of cd_turning_of ct_turning_of : Value}
    {f_law_wide_row : Addr} {od_law_wide_row an_law_wide_row : Option Addr} {sl_law_wide_row : Array (Option Value)} {oc_law_wide_row kV_law_wide_row dc_law_wide_row pm_law_wide_row cd_law_wide_row ct_law_wide_row : Value}
    {f_law_so_turning_of : Addr} {od_law_so_turning_of an_law_so_turning_of : Option Addr} {sl_law_so_turning_of : Array (Option Value)} {oc_law_so_turning_of kV_law_so_turning_of dc_law_so_turning_of pm_law_so_turning_of cd_law_so_turning_of ct_law_so_turning_of : Value}
    {f_has_swing : Addr} {od_has_swing an_has_swing : Option Addr} {sl_has_swing : Array (Option Value)} {oc_has_swing kV_has_swing dc_has_swing pm_has_swing cd_has_swing ct_has_swing : Value}
    {f_swings_of : Addr} {od_swings_of an_swings_of : Option Addr} {sl_swings_of : Array (Option Value)} {oc_swings_of kV_swings_of dc_swings_of pm_swings_of cd_swings_of ct_swings_of : Value}
    {f_law_so_swings_of : Addr} {od_law_so_swings_of an_law_so_swings_of : Option Addr} {sl_law_so_swings_of : Array (Option Value)} {oc_law_so_swings_of kV_law_so_swings_of dc_law_so_swings_of pm_law_so_swings_of cd_law_so_swings_of ct_law_so_swings_of : Value}
    {f_law_wide : Addr} {od_law_wide an_law_wide : Option Addr} {sl_law_wide : Array (Option Value)} {oc_law_wide kV_law_wide dc_law_wide pm_law_wide cd_law_wide ct_law_wide : Value}
    {f_law_a_far : Addr} {od_law_a_far an_law_a_far : Option Addr} {sl_law_a_far : Array (Option Value)} {oc_law_a_far kV_law_a_far dc_law_a_far pm_law_a_far cd_law_a_far ct_law_a_far : Value}
    {f_law_a_pile : Addr} {od_law_a_pile an_law_a_pile : Option Addr} {sl_law_a_pile : Array (Option Value)} {oc_law_a_pile kV_law_a_pile dc_law_a_pile pm_law_a_pile cd_law_a_pile ct_law_a_pile : Value}
    {f_law : Addr} {od_law an_law : Option Addr} {sl_law : Array (Option Value)} {oc_law kV_law dc_law pm_law cd_law ct_law : Value}
    (a_law_cell_at : PySem.W.nsIn K mainGlobals "_law_cell_at" = some (some (.ref f_law_cell_at))) (l_law_cell_at : K.lookup f_law_cell_at = some ⟨oc_law_cell_at, od_law_cell_at, .func (PySem.W.fnOf "_law_cell_at" "_law_cell_at" (defArgs s_law_cell_at) (defBody s_law_cell_at) (defScope s_law_cell_at) .none kV_law_cell_at dc_law_cell_at pm_law_cell_at an_law_cell_at cd_law_cell_at ct_law_cell_at), sl_law_cell_at⟩) (c_law_cell_at : PySem.W.codeIn K cd_law_cell_at "_law_cell_at" = true) (k_law_cell_at : PySem.W.keepIn K (.ref f_law_cell_at) = true)
    (a_law_draws : PySem.W.nsIn K mainGlobals "_law_draws" = some (some (.ref f_law_draws))) (l_law_draws : K.lookup f_law_draws = some ⟨oc_law_draws, od_law_draws, .func (PySem.W.fnOf "_law_draws" "_law_draws" (defArgs s_law_draws) (defBody s_law_draws) (defScope s_law_draws) .none kV_law_draws dc_law_draws pm_law_draws an_law_draws cd_law_draws ct_law_draws), sl_law_draws⟩) (c_law_draws : PySem.W.codeIn K cd_law_draws "_law_draws" = true) (k_law_draws : PySem.W.keepIn K (.ref f_law_draws) = true)
    (a_law_whole : PySem.W.nsIn K mainGlobals "_law_whole" = some (some (.ref f_law_whole))) (l_law_whole : K.lookup f_law_whole = some ⟨oc_law_whole, od_law_whole, .func (PySem.W.fnOf "_law_whole" "_law_whole" (defArgs s_law_whole) (defBody s_law_whole) (defScope s_law_whole) .none kV_law_whole dc_law_whole pm_law_whole an_law_whole cd_law_whole ct_law_whole), sl_law_whole⟩) (c_law_whole : PySem.W.codeIn K cd_law_whole "_law_whole" = true) (k_law_whole : PySem.W.keepIn K (.ref f_law_whole) = true)
    (a_law_a_places : PySem.W.nsIn K mainGlobals "_law_a_places" = some (some (.ref f_law_a_places))) (l_law_a_places : K.lookup f_law_a_places = some ⟨oc_law_a_places, od_law_a_places, .func (PySem.W.fnOf "_law_a_places" "_law_a_places" (defArgs s_law_a_places) (defBody s_law_a_places) (defScope s_law_a_places) .none kV_law_a_places dc_law_a_places pm_law_a_places an_law_a_places cd_law_a_places ct_law_a_places), sl_law_a_places⟩) (c_law_a_places : PySem.W.codeIn K cd_law_a_places "_law_a_places" = true) (k_law_a_places : PySem.W.keepIn K (.ref f_law_a_places) = true)
    (a_law_own : PySem.W.nsIn K mainGlobals "_law_own" = some (some (.ref f_law_own))) (l_law_own : K.lookup f_law_own = some ⟨oc_law_own, od_law_own, .func (PySem.W.fnOf "_law_own" "_law_own" (defArgs s_law_own) (defBody s_law_own) (defScope s_law_own) .none kV_law_own dc_law_own pm_law_own an_law_own cd_law_own ct_law_own), sl_law_own⟩) (c_law_own : PySem.W.codeIn K cd_law_own "_law_own" = true) (k_law_own : PySem.W.keepIn K (.ref f_law_own) = true)
    (a_moves_of : PySem.W.nsIn K mainGlobals "moves_of" = some (some (.ref f_moves_of))) (l_moves_of : K.lookup f_moves_of = some ⟨oc_moves_of, od_moves_of, .func (PySem.W.fnOf "moves_of" "moves_of" (defArgs s_moves_of) (defBody s_moves_of) (defScope s_moves_of) .none kV_moves_of dc_moves_of pm_moves_of an_moves_of cd_moves_of ct_moves_of), sl_moves_of⟩) (c_moves_of : PySem.W.codeIn K cd_moves_of "moves_of" = true) (k_moves_of : PySem.W.keepIn K (.ref f_moves_of) = true)
    (a_turning_of : PySem.W.nsIn K mainGlobals "turning_of" = some (some (.ref f_turning_of))) (l_turning_of : K.lookup f_turning_of = some ⟨oc_turning_of, od_turning_of, .func (PySem.W.fnOf "turning_of" "turning_of" (defArgs s_turning_of) (defBody s_turning_of) (defScope s_turning_of) .none kV_turning_of dc_turning_of pm_turning_of an_turning_of cd_turning_of ct_turning_of), sl_turning_of⟩) (c_turning_of : PySem.W.codeIn K cd_turning_of "turning_of" = true) (k_turning_of : PySem.W.keepIn K (.ref f_turning_of) = true)
    (a_law_wide_row : PySem.W.nsIn K mainGlobals "_law_wide_row" = some (some (.ref f_law_wide_row))) (l_law_wide_row : K.lookup f_law_wide_row = some ⟨oc_law_wide_row, od_law_wide_row, .func (PySem.W.fnOf "_law_wide_row" "_law_wide_row" (defArgs s_law_wide_row) (defBody s_law_wide_row) (defScope s_law_wide_row) .none kV_law_wide_row dc_law_wide_row pm_law_wide_row an_law_wide_row cd_law_wide_row ct_law_wide_row), sl_law_wide_row⟩) (c_law_wide_row : PySem.W.codeIn K cd_law_wide_row "_law_wide_row" = true) (k_law_wide_row : PySem.W.keepIn K (.ref f_law_wide_row) = true)
    (a_law_so_turning_of : PySem.W.nsIn K mainGlobals "_law_so_turning_of" = some (some (.ref f_law_so_turning_of))) (l_law_so_turning_of : K.lookup f_law_so_turning_of = some ⟨oc_law_so_turning_of, od_law_so_turning_of, .func (PySem.W.fnOf "_law_so_turning_of" "_law_so_turning_of" (defArgs s_law_so_turning_of) (defBody s_law_so_turning_of) (defScope s_law_so_turning_of) .none kV_law_so_turning_of dc_law_so_turning_of pm_law_so_turning_of an_law_so_turning_of cd_law_so_turning_of ct_law_so_turning_of), sl_law_so_turning_of⟩) (c_law_so_turning_of : PySem.W.codeIn K cd_law_so_turning_of "_law_so_turning_of" = true) (k_law_so_turning_of : PySem.W.keepIn K (.ref f_law_so_turning_of) = true)
    (a_has_swing : PySem.W.nsIn K mainGlobals "has_swing" = some (some (.ref f_has_swing))) (l_has_swing : K.lookup f_has_swing = some ⟨oc_has_swing, od_has_swing, .func (PySem.W.fnOf "has_swing" "has_swing" (defArgs s_has_swing) (defBody s_has_swing) (defScope s_has_swing) .none kV_has_swing dc_has_swing pm_has_swing an_has_swing cd_has_swing ct_has_swing), sl_has_swing⟩) (c_has_swing : PySem.W.codeIn K cd_has_swing "has_swing" = true) (k_has_swing : PySem.W.keepIn K (.ref f_has_swing) = true)
    (a_swings_of : PySem.W.nsIn K mainGlobals "swings_of" = some (some (.ref f_swings_of))) (l_swings_of : K.lookup f_swings_of = some ⟨oc_swings_of, od_swings_of, .func (PySem.W.fnOf "swings_of" "swings_of" (defArgs s_swings_of) (defBody s_swings_of) (defScope s_swings_of) .none kV_swings_of dc_swings_of pm_swings_of an_swings_of cd_swings_of ct_swings_of), sl_swings_of⟩) (c_swings_of : PySem.W.codeIn K cd_swings_of "swings_of" = true) (k_swings_of : PySem.W.keepIn K (.ref f_swings_of) = true)
    (a_law_so_swings_of : PySem.W.nsIn K mainGlobals "_law_so_swings_of" = some (some (.ref f_law_so_swings_of))) (l_law_so_swings_of : K.lookup f_law_so_swings_of = some ⟨oc_law_so_swings_of, od_law_so_swings_of, .func (PySem.W.fnOf "_law_so_swings_of" "_law_so_swings_of" (defArgs s_law_so_swings_of) (defBody s_law_so_swings_of) (defScope s_law_so_swings_of) .none kV_law_so_swings_of dc_law_so_swings_of pm_law_so_swings_of an_law_so_swings_of cd_law_so_swings_of ct_law_so_swings_of), sl_law_so_swings_of⟩) (c_law_so_swings_of : PySem.W.codeIn K cd_law_so_swings_of "_law_so_swings_of" = true) (k_law_so_swings_of : PySem.W.keepIn K (.ref f_law_so_swings_of) = true)
    (a_law_wide : PySem.W.nsIn K mainGlobals "_law_wide" = some (some (.ref f_law_wide))) (l_law_wide : K.lookup f_law_wide = some ⟨oc_law_wide, od_law_wide, .func (PySem.W.fnOf "_law_wide" "_law_wide" (defArgs s_law_wide) (defBody s_law_wide) (defScope s_law_wide) .none kV_law_wide dc_law_wide pm_law_wide an_law_wide cd_law_wide ct_law_wide), sl_law_wide⟩) (c_law_wide : PySem.W.codeIn K cd_law_wide "_law_wide" = true) (k_law_wide : PySem.W.keepIn K (.ref f_law_wide) = true)
    (a_law_a_far : PySem.W.nsIn K mainGlobals "_law_a_far" = some (some (.ref f_law_a_far))) (l_law_a_far : K.lookup f_law_a_far = some ⟨oc_law_a_far, od_law_a_far, .func (PySem.W.fnOf "_law_a_far" "_law_a_far" (defArgs s_law_a_far) (defBody s_law_a_far) (defScope s_law_a_far) .none kV_law_a_far dc_law_a_far pm_law_a_far an_law_a_far cd_law_a_far ct_law_a_far), sl_law_a_far⟩) (c_law_a_far : PySem.W.codeIn K cd_law_a_far "_law_a_far" = true) (k_law_a_far : PySem.W.keepIn K (.ref f_law_a_far) = true)
    (a_law_a_pile : PySem.W.nsIn K mainGlobals "_law_a_pile" = some (some (.ref f_law_a_pile))) (l_law_a_pile : K.lookup f_law_a_pile = some ⟨oc_law_a_pile, od_law_a_pile, .func (PySem.W.fnOf "_law_a_pile" "_law_a_pile" (defArgs s_law_a_pile) (defBody s_law_a_pile) (defScope s_law_a_pile) .none kV_law_a_pile dc_law_a_pile pm_law_a_pile an_law_a_pile cd_law_a_pile ct_law_a_pile), sl_law_a_pile⟩) (c_law_a_pile : PySem.W.codeIn K cd_law_a_pile "_law_a_pile" = true) (k_law_a_pile : PySem.W.keepIn K (.ref f_law_a_pile) = true)
    (a_law : PySem.W.nsIn K mainGlobals "law" = some (some (.ref f_law))) (l_law : K.lookup f_law = some ⟨oc_law, od_law, .func (PySem.W.fnOf "law" "law" (defArgs s_law) (defBody s_law) (defScope s_law) .none kV_law dc_law pm_law an_law cd_law ct_law), sl_law⟩) (c_law : PySem.W.codeIn K cd_law "law" = true) (k_law : PySem.W.keepIn K (.ref f_law) = true)
    (z_abs : PySem.W.nsIn K mainGlobals "abs" = some none)
    (z_bool : PySem.W.nsIn K mainGlobals "bool" = some none)
    (z_dict : PySem.W.nsIn K mainGlobals "dict" = some none)
    (z_int : PySem.W.nsIn K mainGlobals "int" = some none)
    (z_isinstance : PySem.W.nsIn K mainGlobals "isinstance" = some none)
    (z_len : PySem.W.nsIn K mainGlobals "len" = some none)
    (z_list : PySem.W.nsIn K mainGlobals "list" = some none)
    (z_max : PySem.W.nsIn K mainGlobals "max" = some none)
    (z_min : PySem.W.nsIn K mainGlobals "min" = some none)
    (z_range : PySem.W.nsIn K mainGlobals "range" = some none)
    (z_sorted : PySem.W.nsIn K mainGlobals "sorted" = some none)
    (z_str : PySem.W.nsIn K mainGlobals "str" = some none)
    (z_sum : PySem.W.nsIn K mainGlobals "sum" = some none)
    (z_tuple : PySem.W.nsIn K mainGlobals "tuple" = some none)
    (z_zip : PySem.W.nsIn K mainGlobals "zip" = some none) :
    ∃ fd : FuncData, (∀ (s : Shared) (v : Value), BindsTo s fd ⟨[v], []⟩ [("script", v)]) ∧ ∀ base : Heap, K.In base → base.Ns mainGlobals mg → FnOk l.prog w K mg base CX0 5 fa fd ["script"] (spLaw K) := by
  have e := hfa.symm.trans (PySem.W.mg_of X G a_law)
  cases e
  have T : Txt mg := ⟨PySem.W.mg_none_of X G z_abs, PySem.W.mg_none_of X G z_bool, PySem.W.mg_none_of X G z_dict, PySem.W.mg_none_of X G z_int, PySem.W.mg_none_of X G z_isinstance, PySem.W.mg_none_of X G z_len, PySem.W.mg_none_of X G z_list, PySem.W.mg_none_of X G z_max, PySem.W.mg_none_of X G z_min, PySem.W.mg_none_of X G z_range, PySem.W.mg_none_of X G z_sorted, PySem.W.mg_none_of X G z_str, PySem.W.mg_none_of X G z_sum, PySem.W.mg_none_of X G z_tuple, PySem.W.mg_none_of X G z_zip⟩
  have F_law_cell_at := fun_mk (st := s_law_cell_at) l_law_cell_at c_law_cell_at k_law_cell_at
  have D_law_cell_at : Def K mg "_law_cell_at" s_law_cell_at := ⟨_, _, F_law_cell_at, PySem.W.mg_of X G a_law_cell_at⟩
  have F_law_draws := fun_mk (st := s_law_draws) l_law_draws c_law_draws k_law_draws
  have D_law_draws : Def K mg "_law_draws" s_law_draws := ⟨_, _, F_law_draws, PySem.W.mg_of X G a_law_draws⟩
  have F_law_whole := fun_mk (st := s_law_whole) l_law_whole c_law_whole k_law_whole
  have D_law_whole : Def K mg "_law_whole" s_law_whole := ⟨_, _, F_law_whole, PySem.W.mg_of X G a_law_whole⟩
  have F_law_a_places := fun_mk (st := s_law_a_places) l_law_a_places c_law_a_places k_law_a_places
  have D_law_a_places : Def K mg "_law_a_places" s_law_a_places := ⟨_, _, F_law_a_places, PySem.W.mg_of X G a_law_a_places⟩
  have F_law_own := fun_mk (st := s_law_own) l_law_own c_law_own k_law_own
  have D_law_own : Def K mg "_law_own" s_law_own := ⟨_, _, F_law_own, PySem.W.mg_of X G a_law_own⟩
  have F_moves_of := fun_mk (st := s_moves_of) l_moves_of c_moves_of k_moves_of
  have D_moves_of : Def K mg "moves_of" s_moves_of := ⟨_, _, F_moves_of, PySem.W.mg_of X G a_moves_of⟩
  have F_turning_of := fun_mk (st := s_turning_of) l_turning_of c_turning_of k_turning_of
  have D_turning_of : Def K mg "turning_of" s_turning_of := ⟨_, _, F_turning_of, PySem.W.mg_of X G a_turning_of⟩
  have F_law_wide_row := fun_mk (st := s_law_wide_row) l_law_wide_row c_law_wide_row k_law_wide_row
  have D_law_wide_row : Def K mg "_law_wide_row" s_law_wide_row := ⟨_, _, F_law_wide_row, PySem.W.mg_of X G a_law_wide_row⟩
  have F_law_so_turning_of := fun_mk (st := s_law_so_turning_of) l_law_so_turning_of c_law_so_turning_of k_law_so_turning_of
  have D_law_so_turning_of : Def K mg "_law_so_turning_of" s_law_so_turning_of := ⟨_, _, F_law_so_turning_of, PySem.W.mg_of X G a_law_so_turning_of⟩
  have F_has_swing := fun_mk (st := s_has_swing) l_has_swing c_has_swing k_has_swing
  have D_has_swing : Def K mg "has_swing" s_has_swing := ⟨_, _, F_has_swing, PySem.W.mg_of X G a_has_swing⟩
  have F_swings_of := fun_mk (st := s_swings_of) l_swings_of c_swings_of k_swings_of
  have D_swings_of : Def K mg "swings_of" s_swings_of := ⟨_, _, F_swings_of, PySem.W.mg_of X G a_swings_of⟩
  have F_law_so_swings_of := fun_mk (st := s_law_so_swings_of) l_law_so_swings_of c_law_so_swings_of k_law_so_swings_of
  have D_law_so_swings_of : Def K mg "_law_so_swings_of" s_law_so_swings_of := ⟨_, _, F_law_so_swings_of, PySem.W.mg_of X G a_law_so_swings_of⟩
  have F_law_wide := fun_mk (st := s_law_wide) l_law_wide c_law_wide k_law_wide
  have D_law_wide : Def K mg "_law_wide" s_law_wide := ⟨_, _, F_law_wide, PySem.W.mg_of X G a_law_wide⟩
  have F_law_a_far := fun_mk (st := s_law_a_far) l_law_a_far c_law_a_far k_law_a_far
  have D_law_a_far : Def K mg "_law_a_far" s_law_a_far := ⟨_, _, F_law_a_far, PySem.W.mg_of X G a_law_a_far⟩
  have F_law_a_pile := fun_mk (st := s_law_a_pile) l_law_a_pile c_law_a_pile k_law_a_pile
  have D_law_a_pile : Def K mg "_law_a_pile" s_law_a_pile := ⟨_, _, F_law_a_pile, PySem.W.mg_of X G a_law_a_pile⟩
  have F_law := fun_mk (st := s_law) l_law c_law k_law
  have D_law : Def K mg "law" s_law := ⟨_, _, F_law, PySem.W.mg_of X G a_law⟩
  refine ⟨PySem.W.fnOf "law" "law" (defArgs s_law) (defBody s_law) (defScope s_law) .none kV_law dc_law pm_law an_law cd_law ct_law, fun s v => .of_eq rfl, fun base _ _ => ?_⟩
  have C_law_cell_at := ok_law_cell_at (P := l.prog) (w := w) (base := base) T D_law_cell_at 
  have C_law_draws := ok_law_draws (P := l.prog) (w := w) (base := base) T D_law_draws 
  have C_law_whole := ok_law_whole (P := l.prog) (w := w) (base := base) T D_law_whole 
  have C_law_a_places := ok_law_a_places (P := l.prog) (w := w) (base := base) T D_law_a_places C_law_whole
  have C_law_own := ok_law_own (P := l.prog) (w := w) (base := base) T D_law_own 
  have C_moves_of := ok_moves_of (P := l.prog) (w := w) (base := base) T D_moves_of 
  have C_turning_of := ok_turning_of (P := l.prog) (w := w) (base := base) T D_turning_of C_moves_of
  have C_law_wide_row := ok_law_wide_row (P := l.prog) (w := w) (base := base) T D_law_wide_row C_law_draws C_law_cell_at
  have C_law_so_turning_of := ok_law_so_turning_of (P := l.prog) (w := w) (base := base) T D_law_so_turning_of C_law_own C_turning_of
  have C_has_swing := ok_has_swing (P := l.prog) (w := w) (base := base) T D_has_swing 
  have C_swings_of := ok_swings_of (P := l.prog) (w := w) (base := base) T D_swings_of C_turning_of C_has_swing
  have C_law_so_swings_of := ok_law_so_swings_of (P := l.prog) (w := w) (base := base) T D_law_so_swings_of C_law_own C_swings_of
  have C_law_wide := ok_law_wide (P := l.prog) (w := w) (base := base) T D_law_wide 
  have C_law_a_far := ok_law_a_far (P := l.prog) (w := w) (base := base) T D_law_a_far C_law_wide
  have C_law_a_pile := ok_law_a_pile (P := l.prog) (w := w) (base := base) T D_law_a_pile C_law_wide
  exact ok_law F_law T C_law_wide_row C_law_so_swings_of C_law_so_turning_of C_law_a_pile C_law_a_places C_law_a_far
theorem walk {l : PySem.W.OpenLaw} {q : Program} {loose : List Str} {XP : (Str → Option Value) → Heap → Prop} {YP : World → Heap → Prop} {d : DefRec} {K : Params → PySem.W.Frag} (hn : l.most = some 63) (hdf : d.params.defaults = [])
    (hY : ∀ (w : World) (h : Heap), YP w h → (K w.params).In h)
    (F : ∀ (w : World) (mg : Str → Option Value) (fa : Addr) (h : Heap), (K w.params).In h → h.Ns mainGlobals mg → mg d.name = some (.ref fa) →
      ∃ fd : FuncData, (∀ (s : Shared) (u : Value), BindsTo s fd ⟨[u], []⟩ [("script", u)]) ∧ ∀ base : Heap, (K w.params).In base → base.Ns mainGlobals mg → FnOk l.prog w (K w.params) mg base CX0 5 fa fd ["script"] (spLaw (K w.params))) :
    PySem.W.WalkO q loose XP YP l.row.toRowW d [] (fun f vs => PySem.call f vs) :=
  L2.walk_of (n := 63) (k := 5) (x := "script") (CX := fun _ => CX0) (sp := fun w => spLaw (K w.params)) hn (by decide) hdf ⟨rfl, by decide, by decide⟩ hY F (fun _ _ a ns hl _ hS => ⟨a, ns, rfl, hS, hl, fun _ => rfl⟩) fun _ _ _ _ _ z => z
end My
theorem PySem.W.Fast.tw412957785253161984 : True := trivial
theorem PySem.W.Fast.tw12757743752282796064 : True := trivial
theorem PySem.W.Fast.tw15779106146028079552 : True := trivial
theorem PySem.W.Fast.tw5617921479032678976 : True := trivial
theorem PySem.W.Fast.tw14040339470869284897 : True := trivial
theorem PySem.W.Fast.tw14318135658539446529 : True := trivial
theorem PySem.W.Fast.tw1076753597365289218 : True := trivial
theorem PySem.W.Fast.tw4531110529071742946 : True := trivial
theorem PySem.W.Fast.tw18093169208015063139 : True := trivial
theorem PySem.W.Fast.tw1658026133957183619 : True := trivial
theorem PySem.W.Fast.tw11474289760452768995 : True := trivial
theorem PySem.W.Fast.tw13508979474898180579 : True := trivial
theorem PySem.W.Fast.tw1083512605825253891 : True := trivial
theorem PySem.W.Fast.tw17122052936524419651 : True := trivial
theorem PySem.W.Fast.tw18085535936919725731 : True := trivial
theorem PySem.W.Fast.tw12854675693834831811 : True := trivial
theorem PySem.W.Fast.tw17037404334562899076 : True := trivial
theorem PySem.W.Fast.tw12526928210242099972 : True := trivial
theorem PySem.W.Fast.tw13453381549734335525 : True := trivial
theorem PySem.W.Fast.tw9616213105013028293 : True := trivial
theorem PySem.W.Fast.tw16985524960457256166 : True := trivial
theorem PySem.W.Fast.tw5136709192528261478 : True := trivial
theorem PySem.W.Fast.tw15150372997896626662 : True := trivial
theorem PySem.W.Fast.tw5159631883754875750 : True := trivial
theorem PySem.W.Fast.tw15487945550329227174 : True := trivial
theorem PySem.W.Fast.tw12239660246634066823 : True := trivial
theorem PySem.W.Fast.tw14911181669215388968 : True := trivial
theorem PySem.W.Fast.tw122565085337159336 : True := trivial
theorem PySem.W.Fast.tw18217486599093000904 : True := trivial
theorem PySem.W.Fast.tw5489597165006410504 : True := trivial
theorem PySem.W.Fast.tw15069513804589522792 : True := trivial
theorem PySem.W.Fast.tw462917785956943113 : True := trivial
theorem PySem.W.Fast.tw13052431354406665097 : True := trivial
theorem PySem.W.Fast.tw5422370706828215402 : True := trivial
theorem PySem.W.Fast.tw4530354209883525546 : True := trivial
theorem PySem.W.Fast.tw11225142401927155370 : True := trivial
theorem PySem.W.Fast.tw12594141153756981994 : True := trivial
theorem PySem.W.Fast.tw13176613990367673226 : True := trivial
theorem PySem.W.Fast.tw10258553520370773930 : True := trivial
theorem PySem.W.Fast.tw11398288775573914699 : True := trivial
theorem PySem.W.Fast.tw12580507333753815531 : True := trivial
theorem PySem.W.Fast.tw6060492192908467915 : True := trivial
theorem PySem.W.Fast.tw11036858081014732460 : True := trivial
theorem PySem.W.Fast.tw12996452824689684172 : True := trivial
theorem PySem.W.Fast.tw904219822780499021 : True := trivial
theorem PySem.W.Fast.tw10703505038433737997 : True := trivial
theorem PySem.W.Fast.tw1487566312777105741 : True := trivial
theorem PySem.W.Fast.tw5670563384044104077 : True := trivial
theorem PySem.W.Fast.tw825459899180557965 : True := trivial
theorem PySem.W.Fast.tw4837056427737156301 : True := trivial
theorem PySem.W.Fast.tw2828371479704205069 : True := trivial
theorem PySem.W.Fast.tw15807302116550247309 : True := trivial
theorem PySem.W.Fast.tw2453207856925167662 : True := trivial
theorem PySem.W.Fast.tw2255437022912759886 : True := trivial
theorem PySem.W.Fast.tw2549668302692843822 : True := trivial
theorem PySem.W.Fast.tw9615545177787759182 : True := trivial
theorem PySem.W.Fast.tw10163835934691979982 : True := trivial
theorem PySem.W.Fast.tw2041119722139368079 : True := trivial
theorem PySem.W.Fast.tw11912679533359384335 : True := trivial
theorem PySem.W.Fast.tw76516992862048336 : True := trivial
theorem PySem.W.Fast.tw15980825402718844050 : True := trivial
theorem PySem.W.Fast.tw3767175136072213778 : True := trivial
theorem PySem.W.Fast.tw10477002307317844562 : True := trivial
theorem PySem.W.Fast.tw17161157274321323634 : True := trivial
theorem PySem.W.Fast.tw7487754482681495410 : True := trivial
theorem PySem.W.Fast.tw10569773847803652082 : True := trivial
theorem PySem.W.Fast.tw9287737947746784307 : True := trivial
theorem PySem.W.Fast.tw14973303102486311379 : True := trivial
theorem PySem.W.Fast.tw5879402679978589651 : True := trivial
theorem PySem.W.Fast.tw531074197179087347 : True := trivial
theorem PySem.W.Fast.tw4116608861960565267 : True := trivial
theorem PySem.W.Fast.tw10073602740613169811 : True := trivial
theorem PySem.W.Fast.tw8247737454593536659 : True := trivial
theorem PySem.W.Fast.tw3401062767522249044 : True := trivial
theorem PySem.W.Fast.tw6409072815414697716 : True := trivial
theorem PySem.W.Fast.tw6903180803031899892 : True := trivial
theorem PySem.W.Fast.tw4535314814589301588 : True := trivial
theorem PySem.W.Fast.tw16833402144774782964 : True := trivial
theorem PySem.W.Fast.tw13036404321635179797 : True := trivial
theorem PySem.W.Fast.tw11515086062158079254 : True := trivial
theorem PySem.W.Fast.tw9456759638442581430 : True := trivial
theorem PySem.W.Fast.tw4774368649829152310 : True := trivial
theorem PySem.W.Fast.tw13933213154463482454 : True := trivial
theorem PySem.W.Fast.tw1956180424618857430 : True := trivial
theorem PySem.W.Fast.tw11105748420595360726 : True := trivial
theorem PySem.W.Fast.tw4759544545735185655 : True := trivial
theorem PySem.W.Fast.tw11331034359901792247 : True := trivial
theorem PySem.W.Fast.tw2578465122097996824 : True := trivial
theorem PySem.W.Fast.tw8406468094710186104 : True := trivial
theorem PySem.W.Fast.tw7194047319196651288 : True := trivial
theorem PySem.W.Fast.tw15339679360966038937 : True := trivial
theorem PySem.W.Fast.tw13513633839601226137 : True := trivial
theorem PySem.W.Fast.tw12332449396269562713 : True := trivial
theorem PySem.W.Fast.tw8863168033359596409 : True := trivial
theorem PySem.W.Fast.tw13079863965880557529 : True := trivial
theorem PySem.W.Fast.tw15649915190592190842 : True := trivial
theorem PySem.W.Fast.tw6354494210639203770 : True := trivial
theorem PySem.W.Fast.tw13675728729843235546 : True := trivial
theorem PySem.W.Fast.tw2250754234244077370 : True := trivial
theorem PySem.W.Fast.tw7899934268425433275 : True := trivial
theorem PySem.W.Fast.tw18262772175522647579 : True := trivial
theorem PySem.W.Fast.tw14087019569000962651 : True := trivial
theorem PySem.W.Fast.tw15955473579701638875 : True := trivial
theorem PySem.W.Fast.tw7465016403655539547 : True := trivial
theorem PySem.W.Fast.tw1734271376280134555 : True := trivial
theorem PySem.W.Fast.tw15028592168897666043 : True := trivial
theorem PySem.W.Fast.tw4328393886531375644 : True := trivial
theorem PySem.W.Fast.tw9872292016474385885 : True := trivial
theorem PySem.W.Fast.tw591054842164234013 : True := trivial
theorem PySem.W.Fast.tw6138963325954691901 : True := trivial
theorem PySem.W.Fast.tw18412458576784919678 : True := trivial
theorem PySem.W.Fast.tw4714238084197421278 : True := trivial
theorem PySem.W.Fast.tw1894597271637687646 : True := trivial
theorem PySem.W.Fast.tw13974327196503825022 : True := trivial
theorem PySem.W.Fast.tw3916278544953612030 : True := trivial
theorem PySem.W.Fast.tw3151767426825829214 : True := trivial
theorem PySem.W.Fast.tw3845904209393782718 : True := trivial
theorem PySem.W.Fast.tw10081713036170417791 : True := trivial
open PySem PySem.W PyProof.Rows
set_option maxRecDepth 100000 in
set_option maxHeartbeats 0 in
theorem PySem.Challenge.cw_lugtrain_k10_swings_counted_holds : PySem.Challenge.rw_lugtrain_k10_swings_counted.Holds := by
  w_on; o_law; k_head; (case hw => w_witness2)
  k_fill
  refine My.walk (l := PySem.Challenge.rw_lugtrain_k10_swings_counted) rfl rfl (fun w h Y => PySem.W.kIn_of Y) ?F
  case F =>
    intro w mg fa h KX G hmg
    refine' My.all_mk KX G hmg ?a_law_cell_at ?l_law_cell_at ?c_law_cell_at ?k_law_cell_at ?a_law_draws ?l_law_draws ?c_law_draws ?k_law_draws ?a_law_whole ?l_law_whole ?c_law_whole ?k_law_whole ?a_law_a_places ?l_law_a_places ?c_law_a_places ?k_law_a_places ?a_law_own ?l_law_own ?c_law_own ?k_law_own ?a_moves_of ?l_moves_of ?c_moves_of ?k_moves_of ?a_turning_of ?l_turning_of ?c_turning_of ?k_turning_of ?a_law_wide_row ?l_law_wide_row ?c_law_wide_row ?k_law_wide_row ?a_law_so_turning_of ?l_law_so_turning_of ?c_law_so_turning_of ?k_law_so_turning_of ?a_has_swing ?l_has_swing ?c_has_swing ?k_has_swing ?a_swings_of ?l_swings_of ?c_swings_of ?k_swings_of ?a_law_so_swings_of ?l_law_so_swings_of ?c_law_so_swings_of ?k_law_so_swings_of ?a_law_wide ?l_law_wide ?c_law_wide ?k_law_wide ?a_law_a_far ?l_law_a_far ?c_law_a_far ?k_law_a_far ?a_law_a_pile ?l_law_a_pile ?c_law_a_pile ?k_law_a_pile ?a_law ?l_law ?c_law ?k_law ?z_abs ?z_bool ?z_dict ?z_int ?z_isinstance ?z_len ?z_list ?z_max ?z_min ?z_range ?z_sorted ?z_str ?z_sum ?z_tuple ?z_zip
    (case a_law_cell_at => k_is)
    (case l_law_cell_at => k_is)
    (case c_law_cell_at => k_is)
    (case k_law_cell_at => k_is)
    (case a_law_draws => k_is)
    (case l_law_draws => k_is)
    (case c_law_draws => k_is)
    (case k_law_draws => k_is)
    (case a_law_whole => k_is)
    (case l_law_whole => k_is)
    (case c_law_whole => k_is)
    (case k_law_whole => k_is)
    (case a_law_a_places => k_is)
    (case l_law_a_places => k_is)
    (case c_law_a_places => k_is)
    (case k_law_a_places => k_is)
    (case a_law_own => k_is)
    (case l_law_own => k_is)
    (case c_law_own => k_is)
    (case k_law_own => k_is)
    (case a_moves_of => k_is)
    (case l_moves_of => k_is)
    (case c_moves_of => k_is)
    (case k_moves_of => k_is)
    (case a_turning_of => k_is)
    (case l_turning_of => k_is)
    (case c_turning_of => k_is)
    (case k_turning_of => k_is)
    (case a_law_wide_row => k_is)
    (case l_law_wide_row => k_is)
    (case c_law_wide_row => k_is)
    (case k_law_wide_row => k_is)
    (case a_law_so_turning_of => k_is)
    (case l_law_so_turning_of => k_is)
    (case c_law_so_turning_of => k_is)
    (case k_law_so_turning_of => k_is)
    (case a_has_swing => k_is)
    (case l_has_swing => k_is)
    (case c_has_swing => k_is)
    (case k_has_swing => k_is)
    (case a_swings_of => k_is)
    (case l_swings_of => k_is)
    (case c_swings_of => k_is)
    (case k_swings_of => k_is)
    (case a_law_so_swings_of => k_is)
    (case l_law_so_swings_of => k_is)
    (case c_law_so_swings_of => k_is)
    (case k_law_so_swings_of => k_is)
    (case a_law_wide => k_is)
    (case l_law_wide => k_is)
    (case c_law_wide => k_is)
    (case k_law_wide => k_is)
    (case a_law_a_far => k_is)
    (case l_law_a_far => k_is)
    (case c_law_a_far => k_is)
    (case k_law_a_far => k_is)
    (case a_law_a_pile => k_is)
    (case l_law_a_pile => k_is)
    (case c_law_a_pile => k_is)
    (case k_law_a_pile => k_is)
    (case a_law => k_is)
    (case l_law => k_is)
    (case c_law => k_is)
    (case k_law => k_is)
    (case z_abs => k_is)
    (case z_bool => k_is)
    (case z_dict => k_is)
    (case z_int => k_is)
    (case z_isinstance => k_is)
    (case z_len => k_is)
    (case z_list => k_is)
    (case z_max => k_is)
    (case z_min => k_is)
    (case z_range => k_is)
    (case z_sorted => k_is)
    (case z_str => k_is)
    (case z_sum => k_is)
    (case z_tuple => k_is)
    (case z_zip => k_is)

