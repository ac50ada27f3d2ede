import PyProof.Rows.All
import Wide.All
import OpenK.AllK
import Wide.FinOn
import Lean
import PyProof.EqAt
import PyProof.EqKinds
import PyProof.TupleCall
import PyProof.StationsW
import PyProof.ExcAttrAll.ValueError
import PySem.Challenge.RW_lugtrain_k37_whole_grabs_either_way_abou

set_option Elab.async false
set_option linter.all false
set_option maxRecDepth 100000
/-! THE HAND LAYER, for ints, bools, texts, own classes, LISTS and tuples (index, slices, in, append, pop ..), calls, loops. Paste it whole ahead of your own text; what your proof does not reach may be deleted. -/
namespace L2
open PySem PySem.Spec PyProof.Rows

/-- a key: an int or a str -/
abbrev Key := Sum Int Str
def keyIs : Key → Value → Bool
  | .inl k, v => Value.isInt k v
  | .inr x, v => Value.isStrOf x v
def keyH (w : World) : Key → Int
  | .inl k => hashInt k
  | .inr x => hashStr w x
theorem keyIs_shape : ∀ {k : Key} {v : Value}, keyIs k v = true → (∃ i t, k = Sum.inl i ∧ v = Value.int i t) ∨ (∃ x t, k = Sum.inr x ∧ v = Value.str x t)
  | .inl i, v, h => by
    obtain ⟨t, e⟩ := Value.isInt_shape (k := i) (v := v) h
    exact .inl ⟨i, t, rfl, e⟩
  | .inr x, v, h => by
    obtain ⟨t, e⟩ := Value.isStrOf_shape (x := x) (v := v) h
    exact .inr ⟨x, t, rfl, e⟩
theorem key_ll (a b : Int) : decide ((Sum.inl a : Key) = Sum.inl b) = (a == b) := by
  by_cases e : a = b
  · subst e; simp
  · have h : ¬ (Sum.inl a : Key) = Sum.inl b := fun q => e (Sum.inl.inj q)
    rw [decide_eq_false h]
    exact (beq_eq_false_iff_ne.mpr e).symm
theorem key_rr (a b : Str) : decide ((Sum.inr a : Key) = Sum.inr b) = decide (a = b) := by
  by_cases e : a = b
  · subst e; simp
  · have h : ¬ (Sum.inr a : Key) = Sum.inr b := fun q => e (Sum.inr.inj q)
    rw [decide_eq_false h, decide_eq_false e]
theorem key_lr (a : Int) (b : Str) : decide ((Sum.inl a : Key) = Sum.inr b) = false := decide_eq_false (fun q => nomatch q)
theorem key_rl (a : Str) (b : Int) : decide ((Sum.inr a : Key) = Sum.inl b) = false := decide_eq_false (fun q => nomatch q)

def mixKind (prog : Program) (w : World) : PySem.KeyKind prog w Key where
  is := keyIs
  hash := keyH w
  inj := fun v a b ha hb => by
    rcases keyIs_shape ha with ⟨i, t, rfl, rfl⟩ | ⟨x, t, rfl, rfl⟩
    · rcases keyIs_shape hb with ⟨j, u, rfl, e⟩ | ⟨y, u, rfl, e⟩
      · injection e with e1 _; rw [e1]
      · exact nomatch e
    · rcases keyIs_shape hb with ⟨j, u, rfl, e⟩ | ⟨y, u, rfl, e⟩
      · exact nomatch e
      · injection e with e1 _; rw [e1]
  byValue := fun k v h => by
    rcases keyIs_shape h with ⟨i, t, rfl, rfl⟩ | ⟨x, t, rfl, rfl⟩ <;> rfl
  pyHash := fun hv h => by
    rcases keyIs_shape hv with ⟨i, t, rfl, rfl⟩ | ⟨x, t, rfl, rfl⟩
    · exact wpAny_pyHash_int h
    · exact wpAny_pyHash_str h
  eqBool := fun hu hv h => by
    rcases keyIs_shape hu with ⟨i, t, rfl, rfl⟩ | ⟨x, t, rfl, rfl⟩
    · rcases keyIs_shape hv with ⟨j, u, rfl, rfl⟩ | ⟨y, u, rfl, rfl⟩
      · rw [key_ll] at h; exact wpAny_eqBool_int h
      · rw [key_lr] at h; exact SeqAt.EqAt.int_str i t y u _ _ _ _ h
    · rcases keyIs_shape hv with ⟨j, u, rfl, rfl⟩ | ⟨y, u, rfl, rfl⟩
      · rw [key_rl] at h; exact SeqAt.EqAt.str_int x t j u _ _ _ _ h
      · rw [key_rr] at h; exact wpAny_eqBool_str h
  «strs» := fun k x t v h => by
    rcases keyIs_shape h with ⟨i, u, rfl, e⟩ | ⟨y, u, rfl, e⟩
    · exact nomatch e
    · injection e with e1 _
      subst e1
      cases v <;> rfl

end L2

namespace L2
open PySem PySem.Spec PyProof.Rows

/-- a value, without the heap -/
inductive V where
  | non | bl (b : Bool) | int (i : Int) | str (x : Str) | byt (b : Array UInt8) | flt (b : UInt64) | ref (a : Addr) | ty (n : String)
  deriving DecidableEq

def RelV : V → Value → Prop
  | .non, u => u = Value.none
  | .bl b, u => u = Value.bool b
  | .int i, u => ∃ t, u = Value.int i t
  | .str x, u => ∃ t, u = Value.str x t
  | .byt b, u => ∃ t, u = Value.bytes b t
  | .flt b, u => ∃ t, u = Value.float b t
  | .ref a, u => u = Value.ref a
  | .ty n, u => u = Value.type n

abbrev Vals : List V → List Value → Prop := Paired RelV
theorem Vals.length {xs : List V} {us : List Value} (r : Vals xs us) : xs.length = us.length := Paired.length r
theorem Vals.get : ∀ {xs : List V} {us : List Value} {i : Nat} {x : V}, Vals xs us → xs[i]? = some x → ∃ u, us[i]? = some u ∧ RelV x u
  | _, _, _, _, .nil, e => by simp at e
  | _, _, 0, _, .cons r _, e => by simp at e; subst e; exact ⟨_, rfl, r⟩
  | _, _, i + 1, x, .cons _ t, e => by
    obtain ⟨u, h1, h2⟩ := Vals.get (i := i) (x := x) t (by simpa using e)
    exact ⟨u, by simpa using h1, h2⟩
theorem Vals.append : ∀ {xs ys : List V} {us ws : List Value}, Vals xs us → Vals ys ws → Vals (xs ++ ys) (us ++ ws)
  | _, _, _, _, .nil, s => s
  | _, _, _, _, .cons r t, s => .cons r (Vals.append t s)
theorem Vals.take : ∀ {xs : List V} {us : List Value} (n : Nat), Vals xs us → Vals (xs.take n) (us.take n)
  | _, _, 0, _ => .nil
  | _, _, _ + 1, .nil => .nil
  | _, _, n + 1, .cons r t => .cons r (Vals.take n t)
theorem Vals.drop : ∀ {xs : List V} {us : List Value} (n : Nat), Vals xs us → Vals (xs.drop n) (us.drop n)
  | _, _, 0, r => r
  | _, _, _ + 1, .nil => .nil
  | _, _, n + 1, .cons _ t => Vals.drop n t
def RelO : Option V → Option Value → Prop
  | some v, some u => RelV v u
  | none, none => True
  | _, _ => False
def KV {κ : Type} : List (κ × V) → List (κ × Value) → Prop := Paired fun (p : κ × V) (q : κ × Value) => p.1 = q.1 ∧ RelV p.2 q.2

/-- a key of a dict (00_mix): an int or a text -/
def kV : Key → V
  | .inl i => .int i
  | .inr x => .str x

/-- what stands at a tracked address -/
inductive HO where
  /-- a list -/
  | lst (xs : List V)
  /-- a tuple (never changes) -/
  | tup (xs : List V)
  /-- a dict whose keys are ints and texts; one whose keys are tuples of ints and texts (the empty one is both) -/
  | dK (kvs : List (Key × V)) | dT (kvs : List (List Key × V))
  /-- a set of ints: its members, its size -/
  | set (S : Int → Bool) (n : Nat)
  /-- an instance of the class at C, its dict at dx, its attributes -/
  | ins (C dx : Addr) (fs : List (Str × V))
  /-- the dict of the instance at x -/
  | own (x : Addr)
  /-- the dict of an exception -/
  | xd (fs : List (Str × V))
  /-- a bound method, f of x -/
  | met (f x : Addr)
  /-- a range object lo, lo + 1, .. below hi -/
  | rng (lo hi : Int)
  /-- a thing that is known to the object (the script; a dict while a loop walks it): read, never written while it is so -/
  | frz (o : Obj) (u : HO)
  /-- a code object's table -/
  | tbl (ps : Array Value)
  /-- any other thing, by what is true of its one object (a def of one's own: SetO a S n := HO.ext fun h => ..) -/
  | ext (φ : Heap → Prop)

abbrev Hp := Addr → Option HO
def upd (H : Hp) (a : Addr) (o : HO) : Hp := fun b => if b = a then some o else H b
theorem upd_same {H : Hp} {a : Addr} {o : HO} : upd H a o a = some o := by unfold upd; rw [if_pos rfl]
theorem upd_ne {H : Hp} {a b : Addr} {o : HO} (h : b ≠ a) : upd H a o b = H b := by unfold upd; rw [if_neg h]
theorem ne_of_none {H : Hp} {a b : Addr} {o : HO} (h : H a = some o) (h' : H b = none) : a ≠ b := by
  intro e; subst e; rw [h] at h'; cases h'

section
variable (P : Program) (w : World)
def ObjOk (H : Hp) (h : Heap) (a : Addr) : HO → Prop
  | .lst xs => xs.length ≤ sizeLine ∧ ∃ (its : List Value) (n : Nat), Vals xs its ∧ h.get? a = some { cls := .type "list", data := .seq its.toArray n }
  | .tup xs => xs.length ≤ sizeLine ∧ ∃ its : List Value, Vals xs its ∧ IsTup h a its.toArray
  | .dK kvs => kvs.length ≤ sizeLine ∧ (a == sysModules) = false ∧ ∃ vs, KV kvs vs ∧ h.DictOf (mixKind P w) a vs
  | .dT kvs => kvs.length ≤ sizeLine ∧ (a == sysModules) = false ∧ ∃ xs : List (List Key × Addr × Value),
      Paired (fun (p : List Key × V) (q : List Key × Addr × Value) => p.1 = q.1 ∧ H q.2.1 = some (.tup (p.1.map kV)) ∧ RelV p.2 q.2.2) kvs xs ∧
      ∃ o es ep, h.get? a = some o ∧ o.ExactDict ∧ o.data = .dict es ep ∧ es.toList = xs.map (entryOfKey (tupleKind (mixKind P w))) ∧ (xs.map (·.1)).Nodup
  | .set S n => h.SetOf (intKind P w) a S n
  | .ins C dx fs => H dx = some (.own a) ∧ fs.length ≤ 1000 ∧ dx ≠ a ∧ h.get? a = some (PySem.W.instObj C dx) ∧
      ∃ mA, h.Ns1 dx mA ∧ (∀ f, RelO (fs.lookup f) (mA f)) ∧ PySem.Within mA (fs.map (·.1))
  | .own _ => ∃ o, h.get? a = some o
  | .xd fs => ∃ mA, h.Ns1 a mA ∧ ∀ f, RelO (fs.lookup f) (mA f)
  | .rng lo hi => ∃ t u v, h.get? a = some { cls := .type "range", data := .fields #[.int lo t, .int hi u, .int 1 v] }
  | .frz o u => h.get? a = some o ∧ ObjOk H h a u
  | .tbl ps => h.get? a = some { cls := .none, data := .fields ps }
  | .met f x => h.get? a = some (PySem.W.methodObj (.ref f) (.ref x))
  | .ext φ => φ h ∧ (∃ o, h.get? a = some o) ∧ ∀ h1 h2 : Heap, φ h1 → (∀ o, h1.get? a = some o → h2.get? a = some o) → φ h2
/-- the abstract heap is held -/
def HOk (H : Hp) (h : Heap) : Prop := ∀ a o, H a = some o → ObjOk P w H h a o
end

section
variable {P : Program} {w : World} {H H' : Hp} {h h' : Heap} {a : Addr} {o : HO}
theorem ObjOk.lt (x : ObjOk P w H h a o) : a < h.objs.size := by
  cases o with
  | lst xs => obtain ⟨_, _, _, _, e⟩ := x; exact Heap.lt_size e
  | tup xs => obtain ⟨_, _, _, p⟩ := x; exact p.lt
  | dK kvs => obtain ⟨_, _, _, _, o, _, _, e, _⟩ := x; exact Heap.lt_size e
  | dT kvs => obtain ⟨_, _, _, _, o, _, _, e, _⟩ := x; exact Heap.lt_size e
  | set S n => obtain ⟨o, _, _, _, e, _⟩ := x; exact Heap.lt_size e
  | ins C dx fs => obtain ⟨_, _, _, e, _⟩ := x; exact Heap.lt_size e
  | own y => obtain ⟨_, e⟩ := x; exact Heap.lt_size e
  | xd fs => obtain ⟨_, ⟨_, _, _, e, _⟩, _⟩ := x; exact Heap.lt_size e
  | rng lo hi => obtain ⟨_, _, _, e⟩ := x; exact Heap.lt_size e
  | frz ob u => obtain ⟨e, _⟩ := x; exact Heap.lt_size e
  | tbl ps => exact Heap.lt_size (show h.get? a = some _ from x)
  | met f y => exact Heap.lt_size (show h.get? a = some _ from x)
  | ext φ => obtain ⟨_, ⟨_, e⟩, _⟩ := x; exact Heap.lt_size e
theorem Paired.mapP {α β : Type} {F G : α → β → Prop} : ∀ {l₁ : List α} {l₂ : List β}, Paired F l₁ l₂ → (∀ a b, F a b → G a b) → Paired G l₁ l₂
  | _, _, .nil, _ => .nil
  | _, _, .cons r t, f => .cons (f _ _ r) (Paired.mapP t f)
/-- what an object's description leans on: its own object, its own dict, the tuples -/
theorem ObjOk.stay (x : ObjOk P w H h a o) (k : ∀ b u, (b = a ∨ H b = some (.own a)) → h.get? b = some u → h'.get? b = some u)
    (ho : ∀ b, H b = some (.own a) → H' b = some (.own a)) (ht : ∀ b xs, H b = some (.tup xs) → H' b = some (.tup xs)) : ObjOk P w H' h' a o := by
  induction o with
  | lst xs => obtain ⟨z, its, n, r, e⟩ := x; exact ⟨z, its, n, r, k _ _ (.inl rfl) e⟩
  | tup xs => obtain ⟨z, its, r, ob, e, c⟩ := x; exact ⟨z, its, r, ob, k _ _ (.inl rfl) e, c⟩
  | dK kvs => obtain ⟨z, y, vs, r, ob, es, ep, e, c⟩ := x; exact ⟨z, y, vs, r, ob, es, ep, k _ _ (.inl rfl) e, c⟩
  | dT kvs =>
    obtain ⟨z, y, xs, r, ob, es, ep, e, c⟩ := x
    exact ⟨z, y, xs, Paired.mapP r fun p q z => ⟨z.1, ht _ _ z.2.1, z.2.2⟩, ob, es, ep, k _ _ (.inl rfl) e, c⟩
  | set S n => obtain ⟨ob, es, ep, t, e, c⟩ := x; exact ⟨ob, es, ep, t, k _ _ (.inl rfl) e, c⟩
  | ins C dx fs =>
    obtain ⟨d, z, ne, e, mA, ⟨od, es, ep, e2, c⟩, r⟩ := x
    exact ⟨ho _ d, z, ne, k _ _ (.inl rfl) e, mA, ⟨od, es, ep, k _ _ (.inr d) e2, c⟩, r⟩
  | own y => obtain ⟨ob, e⟩ := x; exact ⟨ob, k _ _ (.inl rfl) e⟩
  | xd fs => obtain ⟨mA, ⟨od, es, ep, e, c⟩, r⟩ := x; exact ⟨mA, ⟨od, es, ep, k _ _ (.inl rfl) e, c⟩, r⟩
  | rng lo hi => obtain ⟨t, u, v, e⟩ := x; exact ⟨t, u, v, k _ _ (.inl rfl) e⟩
  | frz ob u ih => obtain ⟨e, q⟩ := x; exact ⟨k _ _ (.inl rfl) e, ih q⟩
  | tbl ps =>
    have e : h.get? a = some { cls := .none, data := .fields ps } := x
    show h'.get? a = some { cls := .none, data := .fields ps }
    exact k a _ (.inl rfl) e
  | met f y =>
    have e : h.get? a = some (PySem.W.methodObj (.ref f) (.ref y)) := x
    show h'.get? a = some (PySem.W.methodObj (.ref f) (.ref y))
    exact k a _ (.inl rfl) e
  | ext φ => obtain ⟨p, ⟨o, e⟩, st⟩ := x; exact ⟨st _ _ p fun o q => k _ _ (.inl rfl) q, ⟨o, k _ _ (.inl rfl) e⟩, st⟩
theorem HOk.lt (x : HOk P w H h) (e : H a = some o) : a < h.objs.size := (x a o e).lt
theorem HOk.fresh (x : HOk P w H h) (e : h.objs.size ≤ a) : H a = none := by
  cases q : H a with
  | none => rfl
  | some u => exact absurd (Nat.lt_of_lt_of_le (x.lt q) e) (Nat.lt_irrefl _)
/-- every object of the heap is kept -/
theorem HOk.kept (x : HOk P w H h) (k : ∀ b u, h.get? b = some u → h'.get? b = some u) : HOk P w H h' := fun a o e =>
  (x a o e).stay (fun b u _ q => k b u q) (fun _ q => q) fun _ _ q => q
/-- a new object is laid and tracked -/
theorem HOk.laid (x : HOk P w H h) (k : ∀ b u, h.get? b = some u → h'.get? b = some u) (hp : h.objs.size ≤ a) (new : ObjOk P w (upd H a o) h' a o) : HOk P w (upd H a o) h' := fun b u e => by
  have hn := x.fresh hp
  by_cases hb : b = a
  · subst hb; rw [upd_same] at e; cases e; exact new
  · rw [upd_ne hb] at e
    exact (x b u e).stay (fun c v _ q => k c v q) (fun c q => by rw [upd_ne (ne_of_none q hn)]; exact q) fun c xs q => by rw [upd_ne (ne_of_none q hn)]; exact q
end

/-- what may be read as u: it is u, or a known u -/
def Rd (H : Hp) (a : Addr) (u : HO) : Prop := H a = some u ∨ ∃ o, H a = some (.frz o u)
theorem Rd.ok {P : Program} {w : World} {H : Hp} {h : Heap} {a : Addr} {u : HO} (r : Rd H a u) (x : HOk P w H h) : ObjOk P w H h a u := by
  rcases r with r | ⟨o, r⟩
  · exact x a u r
  · obtain ⟨_, q⟩ := x a _ r
    exact q
/-- what may be written -/
def Mut : Option HO → Prop
  | some (.lst _) => True
  | some (.dK _) => True
  | some (.dT _) => True
  | some (.set _ _) => True
  | some (.ins _ _ _) => True
  | some (.ext _) => True
  | _ => False
section
variable {P : Program} {w : World} {H : Hp} {h h' : Heap} {x e : Addr} {o' : HO}
/-- the object at e is changed: x itself, or the dict of the instance x -/
theorem HOk.write (ok : HOk P w H h) (mu : Mut (H x)) (he : e = x ∨ H e = some (.own x)) (k : ∀ b u, b ≠ e → h.get? b = some u → h'.get? b = some u) (heo : ∃ u, h'.get? e = some u)
    (new : ObjOk P w (upd H x o') h' x o') : HOk P w (upd H x o') h' := fun b u q => by
  have nown : ∀ c y, H c = some (.own y) → c ≠ x := fun c y r z => by subst z; rw [r] at mu; exact mu
  have ntup : ∀ c xs, H c = some (.tup xs) → c ≠ x := fun c xs r z => by subst z; rw [r] at mu; exact mu
  by_cases hb : b = x
  · subst hb; rw [upd_same] at q; cases q; exact new
  · rw [upd_ne hb] at q
    by_cases hbe : b = e
    · have q' : H b = some (.own x) := by
        rcases he with z | z
        · exact absurd (hbe.trans z) hb
        · rw [hbe]; exact z
      rw [q] at q'; cases q'
      obtain ⟨v, hv⟩ := heo
      exact ⟨v, by rw [hbe]; exact hv⟩
    · refine (ok b u q).stay (fun c v hc r => k c v ?_ r) (fun c r => by rw [upd_ne (nown c b r)]; exact r) fun c xs r => by rw [upd_ne (ntup c xs r)]; exact r
      rcases hc with rfl | hc
      · exact hbe
      · rintro rfl
        rcases he with z | z
        · exact nown c b hc z
        · rw [hc] at z; cases z; exact hb rfl
end

/-! ### kept unless tracked; of the frames at fs (the callers') the slots may change (an exception that passes writes there); of the records at ex (iterators) nothing is said -/
structure Un (fs ex : List Addr) (H H' : Hp) (h h' : Heap) : Prop where
  keep : ∀ b o, h.get? b = some o → H b = none → b ∉ fs → b ∉ ex → h'.get? b = some o
  slot : ∀ b o, h.get? b = some o → H b = none → b ∈ fs → b ∉ ex → ∃ sl, h'.get? b = some { o with slots := sl }
  free : ∀ b o, h.get? b = some o → H b = none → b ∉ ex → H' b = none
  there : ∀ b o, h.get? b = some o → b ∉ ex → ∃ o', h'.get? b = some o'
  tups : ∀ b xs, H b = some (.tup xs) → H' b = some (.tup xs)
  frzs : ∀ b o u, H b = some (.frz o u) → H' b = some (.frz o u)
  tbls : ∀ b ps, H b = some (.tbl ps) → ∃ more, H' b = some (.tbl (ps ++ more))
section
variable {fs fs' ex ex' : List Addr} {H H1 H2 : Hp} {h h1 h2 h' : Heap} {a x e : Addr} {o : HO}
theorem Un.any (u : Un fs ex H H1 h h1) {b : Addr} {ob : Obj} (q : h.get? b = some ob) (n : H b = none) (hx : b ∉ ex) : ∃ sl, h1.get? b = some { ob with slots := sl } := by
  by_cases hb : b ∈ fs
  · exact u.slot b ob q n hb hx
  · exact ⟨ob.slots, u.keep b ob q n hb hx⟩
theorem Un.kept (k : ∀ b u, h.get? b = some u → h'.get? b = some u) : Un fs ex H H h h' :=
  ⟨fun b ob q _ _ _ => k b ob q, fun b ob q _ _ _ => ⟨ob.slots, k b ob q⟩, fun _ _ _ n _ => n, fun b ob q _ => ⟨ob, k b ob q⟩, fun _ _ q => q, fun _ _ _ q => q, fun _ ps q => ⟨#[], by rw [q]; simp⟩⟩
theorem Un.refl : Un fs ex H H h h := Un.kept fun _ _ q => q
theorem Un.laid (k : ∀ b u, h.get? b = some u → h'.get? b = some u) (hp : h.objs.size ≤ a) (hn : H a = none) : Un fs ex H (upd H a o) h h' where
  keep := fun b u q _ _ _ => k b u q
  slot := fun b u q _ _ _ => ⟨u.slots, k b u q⟩
  free := fun b u q n _ => by rw [upd_ne (Nat.ne_of_lt (Nat.lt_of_lt_of_le (Heap.lt_size q) hp))]; exact n
  there := fun b u q _ => ⟨u, k b u q⟩
  tups := fun b xs q => by rw [upd_ne (ne_of_none q hn)]; exact q
  frzs := fun b u xs q => by rw [upd_ne (ne_of_none q hn)]; exact q
  tbls := fun b ps q => ⟨#[], by rw [upd_ne (ne_of_none q hn), q]; simp⟩
theorem Un.write (mu : Mut (H x)) (he : e = x ∨ H e = some (.own x)) (k : ∀ b u, b ≠ e → h.get? b = some u → h'.get? b = some u) (heo : ∃ u, h'.get? e = some u) : Un fs ex H (upd H x o) h h' := by
  have hx : ∀ b, H b = none → b ≠ x := fun b n z => by subst z; rw [n] at mu; exact mu
  have hb : ∀ b, H b = none → b ≠ e := fun b n z => by
    subst z
    rcases he with r | r
    · exact hx b n r
    · rw [n] at r; cases r
  have hm : ∀ b u, H b = some u → ¬ Mut (some u) → b ≠ x := fun b u q nm z => by subst z; rw [q] at mu; exact nm mu
  refine ⟨fun b u q n _ _ => k b u (hb b n) q, fun b u q n _ _ => ⟨u.slots, k b u (hb b n) q⟩, fun b u q n _ => by rw [upd_ne (hx b n)]; exact n, fun b u q _ => ?_,
    fun b xs q => by rw [upd_ne (hm b _ q fun z => z)]; exact q, fun b u xs q => by rw [upd_ne (hm b _ q fun z => z)]; exact q, fun b ps q => ⟨#[], by rw [upd_ne (hm b _ q fun z => z), q]; simp⟩⟩
  by_cases hbe : b = e
  · subst hbe; exact heo
  · exact ⟨u, k b u hbe q⟩
end

/-! ### the heap without what is tracked -/
def trk (h : Heap) (H : Hp) : List Addr := (List.range h.objs.size).filter fun a => (H a).isSome
def hidT (h : Heap) (H : Hp) : Heap := PySem.W.hideAll h (trk h H)
theorem hidT_size (h : Heap) (H : Hp) : (hidT h H).objs.size = h.objs.size := PySem.W.hideAll_size _ _
theorem hidT_get {h : Heap} {H : Hp} {b : Addr} {o : Obj} (e : h.get? b = some o) (n : H b = none) : (hidT h H).get? b = some o :=
  PySem.W.hideAll_get _ e fun hm => by
    have q : (H b).isSome = true := (List.mem_filter.mp hm).2
    rw [n] at q; simp at q
theorem of_hidT {h : Heap} {H : Hp} {b : Addr} {o : Obj} (e : (hidT h H).get? b = some o) : h.get? b = some o ∧ H b = none := by
  have e' : h.get? b = some o := PySem.W.of_hideAll (trk h H) e
  refine ⟨e', ?_⟩
  cases q : H b with
  | none => rfl
  | some x =>
    have hm : b ∈ trk h H := List.mem_filter.mpr ⟨List.mem_range.mpr (Heap.lt_size e'), by simp [q]⟩
    have z : (hidT h H).get? b = none := PySem.W.hideAll_none (trk h H) hm
    rw [z] at e; cases e

/-! ### OpenK's ledger, filled with every new object but one -/
def allNews (g h : Heap) (L : Addr) : List (Addr × Obj) := (List.range h.objs.size).filterMap fun a => if a = L ∨ (g.get? a).isSome = true then none else (h.get? a).map fun o => (a, o)
def rest (g h : Heap) (L d : Addr) : List (Addr × Obj) := (allNews g h L).filter fun p => decide (p.1 ≠ d)
end L2

namespace L2
open PySem PySem.Spec PyProof.Rows

/-- the module's facts, over the base: the heap at the law's entry without what is tracked there -/
structure Mod (K : PySem.W.Frag) (mg : Str → Option Value) (base : Heap) : Prop where
  kin : K.In base
  glob : base.Ns mainGlobals mg
  blt : ∃ mb, base.Ns builtinsNs mb ∧ ∀ x : Str, x ≠ "__name__" → mb x = bootBuiltins x
  nolimit : base.NoLimit

/-- the context: a def's body (or a comprehension's block) running. base: fixed through the whole law; s₀, H₀: the entry; outer: the frames whose slots others may change (a def's callers); stack: all frames that run;
   ex: iterators that were made ahead of the entry and are walked here (a comprehension's); fn: the names whose cells were made at the entry (a def: all; a comprehension's block: its own); calm: not within an except suite; pn: pins that every state bears; xe: what is wanted of an exception that leaves the code -/
structure Cx where
  prog : Program
  w : World
  K : PySem.W.Frag
  mg : Str → Option Value
  base : Heap
  A : Around
  N : List Str
  s₀ : Shared
  H₀ : Hp
  env : Env
  outer : List Env
  stack : List Env
  ex : List Addr
  fn : Str → Bool
  calm : Bool
  pn : List (Addr × Obj)
  xe : Value → Shared → Prop
/-- the callers' frames -/
def frs (l : List Env) : List Addr := l.filterMap (·.frame)
abbrev Cx.fs (X : Cx) : List Addr := frs X.outer

def Vis (sc : Scope) (x : Str) : Prop := sc.names.lookup x = some .local ∨ sc.names.lookup x = some .cell ∨ sc.names.lookup x = some .free
def Loc (sc : Scope) (x : Str) : Prop := sc.names.lookup x = some .local ∨ sc.names.lookup x = some .cell
def Look (env : Env) (h : Heap) (m : Str → Option Value) (x : Str) (u : Value) : Prop :=
  (env.kindOf x = some .local ∧ m x = some u) ∨ ((env.kindOf x = some .cell ∨ env.kindOf x = some .free) ∧ ∃ c, env.cells.lookup x = some c ∧ h.IsCell c (some u))

structure Cx.Ok (X : Cx) : Prop where
  mod : Mod X.K X.mg X.base
  kind : X.env.scope.kind = .function
  glob : X.env.globals = mainGlobals
  blt : X.env.builtins = builtinsNs
  above : X.s₀.heap.objs.size ≤ X.env.locals
  inj : ∀ x y c, X.env.cells.lookup x = some c → X.env.cells.lookup y = some c → x = y
  has : ∀ x, (X.env.kindOf x = some .cell ∨ X.env.kindOf x = some .free) → ∃ c, X.env.cells.lookup x = some c
  cab : ∀ x c, X.fn x = true → X.env.cells.lookup x = some c → X.s₀.heap.objs.size ≤ c
  hd : X.calm = true → X.A.handled = none
  frames : X.A.frames = some X.stack
  stk : X.stack = X.outer ∨ (X.stack = X.env :: X.outer ∧ X.env.frame = some X.env.locals)
  exf : ∀ b ∈ X.ex, b ≠ X.env.locals ∧ ∀ x c, X.env.cells.lookup x = some c → c ≠ b
  bs : ∀ b o, X.base.get? b = some o → X.s₀.heap.get? b = some o ∧ X.H₀ b = none
  bsz : X.base.objs.size ≤ X.s₀.heap.objs.size
  noex : ∀ b o, X.base.get? b = some o → b ∉ X.ex
  exfs : ∀ b ∈ X.ex, b ∉ X.fs
  funs : X.s₀.heap.FunFrames X.base X.outer
  frf : ∀ b ∈ X.fs, X.H₀ b = none

structure Inv (X : Cx) (pins : List (Addr × Obj)) (σ : List (Option V)) (H : Hp) (s : Shared) : Prop where
  ok : X.Ok
  os : s.os = X.s₀.os
  bare : AllBare s.gens
  base : Un X.fs X.ex X.H₀ H X.s₀.heap s.heap
  loc : ∃ m, s.heap.Ns X.env.locals m ∧ ∀ (i : Nat) (x : Str) (v : V), X.N[i]? = some x → σ[i]? = some (some v) → Vis X.env.scope x → ∃ u, RelV v u ∧ Look X.env s.heap m x u
  cell : ∀ x c, X.env.cells.lookup x = some c → ∃ v, s.heap.IsCell c v
  free : H X.env.locals = none
  freeC : ∀ x c, X.env.cells.lookup x = some c → H c = none
  pin : ∀ p ∈ X.pn ++ pins, s.heap.get? p.1 = some p.2 ∧ H p.1 = none ∧ p.1 ≠ X.env.locals ∧ p.1 ∉ X.fs ∧ ∀ v, p.2.data ≠ .cell v
  hok : HOk X.prog X.w H s.heap
  len : σ.length = X.N.length

section
variable {X : Cx} {pins : List (Addr × Obj)} {σ : List (Option V)} {H H' : Hp} {s : Shared} {h' : Heap}

theorem Cx.Ok.nofr (ok : X.Ok) {b : Addr} {o : Obj} (e : X.base.get? b = some o) : b ∉ X.fs := fun hb => by
  have := (ok.funs.mem hb).1
  rw [e] at this; cases this
theorem Inv.bs (I : Inv X pins σ H s) : ∀ b o, X.base.get? b = some o → s.heap.get? b = some o ∧ H b = none := fun b o e =>
  ⟨I.base.keep b o (I.ok.bs b o e).1 (I.ok.bs b o e).2 (I.ok.nofr e) (I.ok.noex b o e), I.base.free b o (I.ok.bs b o e).1 (I.ok.bs b o e).2 (I.ok.noex b o e)⟩
theorem Inv.bk (I : Inv X pins σ H s) : ∀ b o, X.base.get? b = some o → s.heap.get? b = some o := fun b o e => (I.bs b o e).1
theorem Inv.mod (I : Inv X pins σ H s) : Mod X.K X.mg X.base := I.ok.mod
theorem Inv.kIn (I : Inv X pins σ H s) : X.K.In s.heap := I.ok.mod.kin.keeps I.bk
theorem Inv.lt (I : Inv X pins σ H s) : X.env.locals < s.heap.objs.size := let ⟨_, hn, _⟩ := I.loc; hn.lt
theorem Inv.sz (I : Inv X pins σ H s) : X.s₀.heap.objs.size ≤ s.heap.objs.size := Nat.le_trans I.ok.above (Nat.le_of_lt I.lt)
theorem Inv.nofs (I : Inv X pins σ H s) {a : Addr} (h : s.heap.objs.size ≤ a) : a ∉ X.fs := fun hb => by
  obtain ⟨_, o, ho, _⟩ := I.ok.funs.mem hb
  exact absurd (Nat.lt_of_lt_of_le (Heap.lt_size ho) (Nat.le_trans I.sz h)) (Nat.lt_irrefl _)
theorem Inv.cne (I : Inv X pins σ H s) : ∀ x c, X.env.cells.lookup x = some c → c ≠ X.env.locals := fun x c e z => by
  obtain ⟨v, o, ho, hd⟩ := I.cell x c e
  obtain ⟨m, ⟨o', es, ep, ho', hd', _⟩, _⟩ := I.loc
  rw [z, ho'] at ho; cases ho; rw [hd'] at hd; cases hd
theorem Inv.funs (I : Inv X pins σ H s) : s.heap.FunFrames X.base X.outer := by
  have all : ∀ (l : List Env), (∀ b ∈ frs l, b ∈ X.fs) → X.s₀.heap.FunFrames X.base l → s.heap.FunFrames X.base l := by
    intro l
    induction l with
    | nil => intro _ _; trivial
    | cons env r ih =>
      intro hs hl
      obtain ⟨hk, ⟨L, o, hf, hn, ho, hd⟩, hr⟩ := hl
      have hL : L ∈ X.fs := hs L (by unfold frs; rw [List.filterMap_cons, hf]; exact List.mem_cons_self)
      obtain ⟨sl, e⟩ := I.base.slot L o ho (I.ok.frf L hL) hL fun z => I.ok.exfs L z hL
      exact ⟨hk, ⟨L, _, hf, hn, e, hd⟩, ih (fun b hb => hs b (by unfold frs; rw [List.filterMap_cons, hf]; exact List.mem_cons_of_mem _ hb)) hr⟩
  exact all X.outer (fun _ hb => hb) I.ok.funs

/-- the frames that run, for a call -/
theorem Inv.stack (I : Inv X pins σ H s) : s.heap.FunFrames X.base X.stack := by
  rcases I.ok.stk with e | ⟨e, hf⟩
  · rw [e]; exact I.funs
  · rw [e]
    obtain ⟨m, hn, _⟩ := I.loc
    refine .cons (by rw [I.ok.kind]; decide) hf hn ?_ I.funs
    exact Heap.get?_none_of_le (Nat.le_trans I.ok.bsz I.ok.above)
theorem Inv.stkSub (I : Inv X pins σ H s) : ∀ b ∈ frs X.stack, b ∈ X.env.locals :: X.fs := fun b hb => by
  rcases I.ok.stk with e | ⟨e, hf⟩
  · rw [e] at hb; exact List.mem_cons_of_mem _ hb
  · rw [e] at hb
    unfold frs at hb
    rw [List.filterMap_cons, hf] at hb
    exact hb
theorem Inv.stkFree (I : Inv X pins σ H s) : ∀ b ∈ frs X.stack, H b = none := fun b hb => by
  rcases List.mem_cons.mp (I.stkSub b hb) with e | hb
  · rw [e]; exact I.free
  · obtain ⟨_, o, ho, _⟩ := I.ok.funs.mem hb
    exact I.base.free b o ho (I.ok.frf b hb) fun z => I.ok.exfs b z hb

/-- THE STEP: the untracked objects but the frame and the records at ch are kept (the callers' frames up to slots), the frame's map is kept, the new abstract heap is held -/
theorem Inv.step {g' : Array GenState} {t' : Nat} {d' : Drawn} {ch : List Addr} (I : Inv X pins σ H s)
    (hch : ∀ b ∈ ch, (b ∈ X.ex ∨ X.s₀.heap.objs.size ≤ b) ∧ b ≠ X.env.locals ∧ (∀ x c, X.env.cells.lookup x = some c → c ≠ b) ∧ ∀ p ∈ X.pn ++ pins, p.1 ≠ b)
    (keep : ∀ b o, b ≠ X.env.locals → b ∉ X.fs → b ∉ ch → s.heap.get? b = some o → H b = none → h'.get? b = some o)
    (slot : ∀ b o, b ≠ X.env.locals → b ∈ X.fs → b ∉ ch → s.heap.get? b = some o → H b = none → ∃ sl, h'.get? b = some { o with slots := sl }) (free : ∀ b o, b ∉ ch → s.heap.get? b = some o → H b = none → H' b = none)
    (there : ∀ b o, b ∉ ch → s.heap.get? b = some o → ∃ o', h'.get? b = some o')
    (tups : ∀ b xs, H b = some (.tup xs) → H' b = some (.tup xs)) (frzs : ∀ b o u, H b = some (.frz o u) → H' b = some (.frz o u)) (tbls : ∀ b ps, H b = some (.tbl ps) → ∃ more, H' b = some (.tbl (ps ++ more)))
    (ns : ∀ m, s.heap.Ns X.env.locals m → h'.Ns X.env.locals m) (hok : HOk X.prog X.w H' h') (hg : AllBare g') :
    Inv X pins σ H' { s with heap := h', gens := g', drawn := d', toks := t' } := by
  have neL : ∀ b o, X.s₀.heap.get? b = some o → b ≠ X.env.locals := fun b o e => Nat.ne_of_lt (Nat.lt_of_lt_of_le (Heap.lt_size e) I.ok.above)
  have neC : ∀ b o, X.s₀.heap.get? b = some o → b ∉ X.ex → b ∉ ch := fun b o e hx hb => by
    rcases (hch b hb).1 with z | z
    · exact hx z
    · exact absurd (Nat.lt_of_lt_of_le (Heap.lt_size e) z) (Nat.lt_irrefl _)
  have cellK : ∀ x c, X.env.cells.lookup x = some c → ∀ v, s.heap.IsCell c v → h'.IsCell c v := fun x c e v ⟨o, ho, hd⟩ => by
    have nch : c ∉ ch := fun z => (hch c z).2.2.1 x c e rfl
    by_cases hc : c ∈ X.fs
    · obtain ⟨sl, q⟩ := slot c o (I.cne x c e) hc nch ho (I.freeC x c e)
      exact ⟨_, q, hd⟩
    · exact ⟨o, keep c o (I.cne x c e) hc nch ho (I.freeC x c e), hd⟩
  refine ⟨I.ok, I.os, hg, ⟨fun b o e n hb hx => ?_, fun b o e n hb hx => ?_, fun b o e n hx => ?_, fun b o e hx => ?_, fun b xs e => tups b xs (I.base.tups b xs e), fun b o xs e => frzs b o xs (I.base.frzs b o xs e), fun b ps e => ?_⟩, ?_, fun x c e => ?_, ?_, fun x c e => ?_, fun p hp => ?_, hok, I.len⟩
  · exact keep b o (neL b o e) hb (neC b o e hx) (I.base.keep b o e n hb hx) (I.base.free b o e n hx)
  · obtain ⟨sl, e1⟩ := I.base.slot b o e n hb hx
    obtain ⟨sl', e2⟩ := slot b _ (neL b o e) hb (neC b o e hx) e1 (I.base.free b o e n hx)
    exact ⟨sl', e2⟩
  · obtain ⟨o', e1⟩ := I.base.there b o e hx
    exact free b o' (neC b o e hx) e1 (I.base.free b o e n hx)
  · obtain ⟨o', e1⟩ := I.base.there b o e hx
    exact there b o' (neC b o e hx) e1
  · obtain ⟨m1, e1⟩ := I.base.tbls b ps e
    obtain ⟨m2, e2⟩ := tbls b _ e1
    exact ⟨m1 ++ m2, by rw [e2, Array.append_assoc]⟩
  · obtain ⟨m, hn, hl⟩ := I.loc
    refine ⟨m, ns m hn, fun i x v e1 e2 e3 => ?_⟩
    obtain ⟨u, r, l⟩ := hl i x v e1 e2 e3
    refine ⟨u, r, ?_⟩
    rcases l with l | ⟨k, c, e, z⟩
    · exact .inl l
    · exact .inr ⟨k, c, e, cellK x c e _ z⟩
  · obtain ⟨v, z⟩ := I.cell x c e
    exact ⟨v, cellK x c e v z⟩
  · obtain ⟨m, ⟨o, _, _, ho, _⟩, _⟩ := I.loc
    exact free _ o (fun z => (hch _ z).2.1 rfl) ho I.free
  · obtain ⟨v, o, ho, hd⟩ := I.cell x c e
    exact free c o (fun z => (hch c z).2.2.1 x c e rfl) ho (I.freeC x c e)
  · obtain ⟨e, n, ne, nf, d⟩ := I.pin p hp
    have nch : p.1 ∉ ch := fun z => (hch p.1 z).2.2.2 p hp rfl
    exact ⟨keep p.1 p.2 ne nf nch e n, free p.1 p.2 nch e n, ne, nf, d⟩
/-- .. where the frame's own object is kept too -/
theorem Inv.un {t' : Nat} (I : Inv X pins σ H s) (u : Un X.fs [] H H' s.heap h') (hok : HOk X.prog X.w H' h') : Inv X pins σ H' { s with heap := h', toks := t' } := by
  obtain ⟨m, ⟨o, es, ep, ho, r⟩, _⟩ := id I.loc
  obtain ⟨sl, hL⟩ := u.any ho I.free (by simp)
  exact I.step (g' := s.gens) (d' := s.drawn) (ch := []) (fun _ z => nomatch z) (fun b o _ hb _ e n => u.keep b o e n hb (by simp)) (fun b o _ hb _ e n => u.slot b o e n hb (by simp)) (fun b o _ e n => u.free b o e n (by simp)) (fun b o _ e => u.there b o e (by simp)) u.tups u.frzs u.tbls (fun m' hm => by
    obtain ⟨o', es', ep', ho', r'⟩ := hm
    rw [ho] at ho'; cases ho'
    exact ⟨_, es', ep', hL, r'⟩) hok I.bare
/-- behind a call (or a comprehension's block): the slots of this frame may have changed too, the records at ch may have turned -/
theorem Inv.call {g' : Array GenState} {t' : Nat} {d' : Drawn} {ch : List Addr} (I : Inv X pins σ H s) (u : Un (frs X.stack) ch H H' s.heap h') (hok : HOk X.prog X.w H' h') (hg : AllBare g')
    (hch : ∀ b ∈ ch, (b ∈ X.ex ∨ X.s₀.heap.objs.size ≤ b) ∧ b ≠ X.env.locals ∧ (∀ x c, X.env.cells.lookup x = some c → c ≠ b) ∧ ∀ p ∈ X.pn ++ pins, p.1 ≠ b) :
    Inv X pins σ H' { s with heap := h', gens := g', drawn := d', toks := t' } := by
  obtain ⟨m, ⟨o, es, ep, ho, r⟩, _⟩ := id I.loc
  obtain ⟨sl, hL⟩ := u.any ho I.free fun z => (hch _ z).2.1 rfl
  exact I.step (ch := ch) hch (fun b o hL hb hc e n => u.keep b o e n (fun z => (List.mem_cons.mp (I.stkSub b z)).elim hL hb) hc) (fun b o _ _ hc e n => u.any e n hc) (fun b o hc e n => u.free b o e n hc) (fun b o hc e => u.there b o e hc) u.tups u.frzs u.tbls (fun m' hm => by
    obtain ⟨o', es', ep', ho', r'⟩ := hm
    rw [ho] at ho'; cases ho'
    exact ⟨_, es', ep', hL, r'⟩) hok hg
/-- an untracked record of ours (an iterator) has turned -/
theorem Inv.turned {t' : Nat} {it : Addr} (I : Inv X pins σ H s) (k : ∀ b o, b ≠ it → s.heap.get? b = some o → h'.get? b = some o) (hn : H it = none) (hL : it ≠ X.env.locals)
    (h1 : it ∈ X.ex ∨ X.s₀.heap.objs.size ≤ it) (h2 : ∀ x c, X.env.cells.lookup x = some c → c ≠ it) (h3 : ∀ p ∈ X.pn ++ pins, p.1 ≠ it) : Inv X pins σ H { s with heap := h', toks := t' } := by
  have nit : ∀ b u, H b = some u → b ≠ it := fun b u e z => by rw [z, hn] at e; cases e
  refine I.step (g' := s.gens) (d' := s.drawn) (ch := [it]) (fun b hb => ?_) (fun b o _ _ hc e _ => k b o (fun z => hc (by simp [z])) e) (fun b o _ _ hc e _ => ⟨o.slots, k b o (fun z => hc (by simp [z])) e⟩) (fun _ _ _ _ n => n)
    (fun b o hc e => ⟨o, k b o (fun z => hc (by simp [z])) e⟩) (fun _ _ e => e) (fun _ _ _ e => e) (fun b ps e => ⟨#[], by rw [e]; simp⟩) (fun m hm => ?_) (fun b u e => ?_) I.bare
  · have e : b = it := by simpa using hb
    subst e
    exact ⟨h1, hL, h2, h3⟩
  · obtain ⟨o, es, ep, ho, r⟩ := hm
    exact ⟨o, es, ep, k _ o (Ne.symm hL) ho, r⟩
  · refine (I.hok b u e).stay (fun c v hc q => k c v ?_ q) (fun _ q => q) fun _ _ q => q
    rcases hc with z | z
    · rw [z]; exact nit b u e
    · exact nit c _ z
theorem Inv.tok (I : Inv X pins σ H s) (t : Nat) : Inv X pins σ H { s with toks := t } := I.un (h' := s.heap) (t' := t) Un.refl I.hok
/-- all objects kept -/
theorem Inv.kept {t' : Nat} (I : Inv X pins σ H s) (k : ∀ b u, s.heap.get? b = some u → h'.get? b = some u) : Inv X pins σ H { s with heap := h', toks := t' } := I.un (Un.kept k) (I.hok.kept k)
/-- a new object laid and tracked -/
theorem Inv.laid {a : Addr} {o : HO} {t' : Nat} (I : Inv X pins σ H s) (k : ∀ b u, s.heap.get? b = some u → h'.get? b = some u) (hp : s.heap.objs.size ≤ a) (new : ObjOk X.prog X.w (upd H a o) h' a o) :
    Inv X pins σ (upd H a o) { s with heap := h', toks := t' } := I.un (Un.laid k hp (I.hok.fresh hp)) (I.hok.laid k hp new)
/-- an object written -/
theorem Inv.write {x e : Addr} {o : HO} {t' : Nat} (I : Inv X pins σ H s) (mu : Mut (H x)) (he : e = x ∨ H e = some (.own x)) (k : ∀ b u, b ≠ e → s.heap.get? b = some u → h'.get? b = some u) (heo : ∃ u, h'.get? e = some u)
    (new : ObjOk X.prog X.w (upd H x o) h' x o) : Inv X pins σ (upd H x o) { s with heap := h', toks := t' } := I.un (Un.write mu he k heo) (I.hok.write mu he k heo new)
/-- forgetting slots, pins -/
theorem Inv.weak {σ' : List (Option V)} (I : Inv X pins σ H s) (hl : σ'.length = σ.length) (w : ∀ (i : Nat) v, σ'[i]? = some (some v) → σ[i]? = some (some v)) : Inv X pins σ' H s :=
  ⟨I.ok, I.os, I.bare, I.base, let ⟨m, hn, hl'⟩ := I.loc; ⟨m, hn, fun i x v e1 e2 e3 => hl' i x v e1 (w i v e2) e3⟩, I.cell, I.free, I.freeC, I.pin, I.hok, hl.trans I.len⟩
theorem Inv.pins_of {pins' : List (Addr × Obj)} (I : Inv X pins σ H s) (h : ∀ p ∈ pins', s.heap.get? p.1 = some p.2 ∧ H p.1 = none ∧ p.1 ≠ X.env.locals ∧ p.1 ∉ X.fs ∧ ∀ v, p.2.data ≠ .cell v) : Inv X pins' σ H s :=
  ⟨I.ok, I.os, I.bare, I.base, I.loc, I.cell, I.free, I.freeC, fun p hp => (List.mem_append.mp hp).elim (fun z => I.pin p (List.mem_append_left _ z)) (h p), I.hok, I.len⟩

theorem nodup_ix {N : List Str} (hN : N.Nodup) {i j : Nat} {x : Str} (a : N[i]? = some x) (b : N[j]? = some x) : i = j := by
  obtain ⟨h1, e1⟩ := List.getElem?_eq_some_iff.mp a
  obtain ⟨h2, e2⟩ := List.getElem?_eq_some_iff.mp b
  exact (List.getElem_inj hN).mp (e1.trans e2.symm)

/-- a name is stored; what changed -/
theorem store_ok2 {M : Model} {A : Around} {E : Value → Shared → Prop} {i : Nat} {x : Str} {v : V} {u : Value} {Q : Unit → Shared → Prop} (I : Inv X pins σ H s) (hN : X.N.Nodup) (hi : X.N[i]? = some x) (hx : Loc X.env.scope x) (r : RelV v u)
    (h : ∀ s', Inv X pins (σ.set i (some v)) H s' → (∃ a, Heap.SameBut a s.heap s'.heap ∧ (a = X.env.locals ∨ X.env.cells.lookup x = some a)) → Q () s') (hf : X.fn x = true ∨ X.env.scope.names.lookup x = some .local := by first | exact .inl rfl | exact .inr rfl | assumption) : wpAny M A (storeName X.env x u) Q E s := by
  obtain ⟨m, hn, hl⟩ := id I.loc
  have hcls : (X.env.scope.kind == .class || (X.env.scope.kind == .module && X.env.locals != X.env.globals)) = false := by rw [I.ok.kind]; rfl
  have hiσ : i < σ.length := by rw [I.len]; exact (List.getElem?_eq_some_iff.mp hi).1
  have cne := I.cne
  have tracked : ∀ {a : Addr} {h' : Heap}, (∃ o, s.heap.get? a = some o ∧ H a = none) → Heap.SameBut a s.heap h' → HOk X.prog X.w H h' := fun {a h'} ha hs b ob e => by
    obtain ⟨_, _, hfree⟩ := ha
    refine (I.hok b ob e).stay (fun c w' hc q => (hs.2 c ?_).trans q) (fun _ q => q) fun _ _ q => q
    rintro rfl
    rcases hc with rfl | hc
    · rw [hfree] at e; cases e
    · rw [hfree] at hc; cases hc
  rcases hx with hk | hk
  · refine wpAny_storeName_local hk hn (fun h' hn' hs => ?_) hcls
    obtain ⟨oL, _, _, hoL, _⟩ := id hn
    refine h _ ⟨I.ok, I.os, I.bare, ⟨fun b o e n hb hx => ?_, fun b o e n hb hx => ?_, I.base.free, fun b o e hx => ?_, I.base.tups, I.base.frzs, I.base.tbls⟩, ⟨_, hn', fun j y v' e1 e2 e3 => ?_⟩, fun y c e => ?_, I.free, I.freeC, fun p hp => ?_, tracked ⟨oL, hoL, I.free⟩ hs, by simpa using I.len⟩ ⟨_, hs, .inl rfl⟩
    · exact (hs.2 b (Nat.ne_of_lt (Nat.lt_of_lt_of_le (Heap.lt_size e) I.ok.above))).trans (I.base.keep b o e n hb hx)
    · obtain ⟨sl, e1⟩ := I.base.slot b o e n hb hx
      exact ⟨sl, (hs.2 b (Nat.ne_of_lt (Nat.lt_of_lt_of_le (Heap.lt_size e) I.ok.above))).trans e1⟩
    · obtain ⟨o', e1⟩ := I.base.there b o e hx
      exact ⟨o', (hs.2 b (Nat.ne_of_lt (Nat.lt_of_lt_of_le (Heap.lt_size e) I.ok.above))).trans e1⟩
    · by_cases hj : j = i
      · subst hj
        rw [hi] at e1; cases e1
        rw [List.getElem?_set_self hiσ] at e2
        cases e2
        exact ⟨u, r, .inl ⟨hk, by simp⟩⟩
      · rw [List.getElem?_set_ne (Ne.symm hj)] at e2
        obtain ⟨u', r', q⟩ := hl j y v' e1 e2 e3
        refine ⟨u', r', ?_⟩
        rcases q with ⟨k, e⟩ | ⟨k, c, e, z⟩
        · refine .inl ⟨k, ?_⟩
          have : y ≠ x := fun e => hj (nodup_ix hN e1 (e ▸ hi))
          simp [this, e]
        · exact .inr ⟨k, c, e, z.sameBut hs (cne y c e)⟩
    · obtain ⟨w', z⟩ := I.cell y c e
      exact ⟨w', z.sameBut hs (cne y c e)⟩
    · obtain ⟨e, n, ne, nf, d⟩ := I.pin p hp
      exact ⟨(hs.2 p.1 ne).trans e, n, ne, nf, d⟩
  · have hfn : X.fn x = true := by
      rcases hf with z | z
      · exact z
      · rw [z] at hk; cases hk
    obtain ⟨c, hc⟩ := I.ok.has x (.inl hk)
    obtain ⟨w', z⟩ := I.cell x c hc
    refine wpAny_storeName_cell I.ok.kind hk hc z (fun h' hc' hs => ?_)
    obtain ⟨oc, hoc, hocd⟩ := id z
    refine h { s with heap := h' } ⟨I.ok, I.os, I.bare, ⟨fun b o e n hb hx => ?_, fun b o e n hb hx => ?_, I.base.free, fun b o e hx => ?_, I.base.tups, I.base.frzs, I.base.tbls⟩, ⟨m, hn.sameBut hs (Ne.symm (cne x c hc)), fun j y v' e1 e2 e3 => ?_⟩, fun y c' e => ?_, I.free, I.freeC, fun p hp => ?_, tracked ⟨oc, hoc, I.freeC x c hc⟩ hs, by simpa using I.len⟩ ⟨c, hs, .inr hc⟩
    · exact (hs.2 b (Nat.ne_of_lt (Nat.lt_of_lt_of_le (Heap.lt_size e) (I.ok.cab x c hfn hc)))).trans (I.base.keep b o e n hb hx)
    · obtain ⟨sl, e1⟩ := I.base.slot b o e n hb hx
      exact ⟨sl, (hs.2 b (Nat.ne_of_lt (Nat.lt_of_lt_of_le (Heap.lt_size e) (I.ok.cab x c hfn hc)))).trans e1⟩
    · obtain ⟨o', e1⟩ := I.base.there b o e hx
      exact ⟨o', (hs.2 b (Nat.ne_of_lt (Nat.lt_of_lt_of_le (Heap.lt_size e) (I.ok.cab x c hfn hc)))).trans e1⟩
    · by_cases hj : j = i
      · subst hj
        rw [hi] at e1; cases e1
        rw [List.getElem?_set_self hiσ] at e2
        cases e2
        exact ⟨u, r, .inr ⟨.inl hk, c, hc, hc'⟩⟩
      · rw [List.getElem?_set_ne (Ne.symm hj)] at e2
        obtain ⟨u', r', q⟩ := hl j y v' e1 e2 e3
        refine ⟨u', r', ?_⟩
        rcases q with q | ⟨k, c', e, z'⟩
        · exact .inl q
        · refine .inr ⟨k, c', e, z'.sameBut hs ?_⟩
          rintro rfl
          exact hj (nodup_ix hN e1 (I.ok.inj _ _ _ e hc ▸ hi))
    · by_cases hcc : c' = c
      · subst hcc; exact ⟨_, hc'⟩
      · obtain ⟨w2, z2⟩ := I.cell y c' e
        exact ⟨w2, z2.sameBut hs hcc⟩
    · obtain ⟨e, n, ne, nf, d⟩ := I.pin p hp
      refine ⟨(hs.2 p.1 ?_).trans e, n, ne, nf, d⟩
      intro q
      rw [q, hoc] at e
      have q' : oc = p.2 := Option.some.inj e
      exact d w' (by rw [← q']; exact hocd)
theorem store_ok {M : Model} {A : Around} {E : Value → Shared → Prop} {i : Nat} {x : Str} {v : V} {u : Value} {Q : Unit → Shared → Prop} (I : Inv X pins σ H s) (hN : X.N.Nodup) (hi : X.N[i]? = some x) (hx : Loc X.env.scope x) (r : RelV v u)
    (h : ∀ s', Inv X pins (σ.set i (some v)) H s' → Q () s') (hf : X.fn x = true ∨ X.env.scope.names.lookup x = some .local := by first | exact .inl rfl | exact .inr rfl | assumption) : wpAny M A (storeName X.env x u) Q E s :=
  store_ok2 I hN hi hx r (fun s' I' _ => h s' I') hf
/-- behind a call or a block, the state as it is -/
theorem Inv.call' {s' : Shared} {ch : List Addr} (I : Inv X pins σ H s) (ho : s'.os = s.os) (u : Un (frs X.stack) ch H H' s.heap s'.heap) (hok : HOk X.prog X.w H' s'.heap) (hg : AllBare s'.gens)
    (hch : ∀ b ∈ ch, (b ∈ X.ex ∨ X.s₀.heap.objs.size ≤ b) ∧ b ≠ X.env.locals ∧ (∀ x c, X.env.cells.lookup x = some c → c ≠ b) ∧ ∀ p ∈ X.pn ++ pins, p.1 ≠ b) : Inv X pins σ H' s' := by
  obtain ⟨h', g', d', t', o'⟩ := s'
  have e : o' = s.os := ho
  subst e
  exact I.call (g' := g') (t' := t') (d' := d') u hok hg hch
end

/-! ### the judgements -/
/-- an exception: its class, its own dict's address (where it has one), the abstract heap behind it -/
abbrev XK := Value → Option Addr → Hp → Prop
abbrev St := List (Option V)
abbrev VK := V → Hp → Prop
/-- an expression's reading; a test's; an argument list's -/
abbrev TE := St → Hp → VK → Prop
abbrev TT := St → Hp → (Bool → Hp → Prop) → Prop
abbrev TA := St → Hp → (List V → Hp → Prop) → Prop
/-- what is wanted behind a statement -/
structure Ends where
  nx : St → Hp → Prop
  rt : VK
  bk : St → Hp → Prop := fun _ _ => False
  ct : St → Hp → Prop := fun _ _ => False
abbrev TS := Ends → St → Hp → Prop

def EP (X : Cx) (pins : List (Addr × Obj)) (σ : St) (Q : VK) (u : Value) (s' : Shared) : Prop := ∃ v H', Inv X pins σ H' s' ∧ RelV v u ∧ Q v H'
def TP (X : Cx) (pins : List (Addr × Obj)) (σ : St) (Q : Bool → Hp → Prop) (b : Bool) (s' : Shared) : Prop := ∃ H', Inv X pins σ H' s' ∧ Q b H'
def AP (X : Cx) (pins : List (Addr × Obj)) (σ : St) (Q : List V → Hp → Prop) (us : List Value) (s' : Shared) : Prop := ∃ vs H', Inv X pins σ H' s' ∧ Vals vs us ∧ Q vs H'
def SP (X : Cx) (pins : List (Addr × Obj)) (D : Ends) (f : Flow) (s' : Shared) : Prop :=
  match f with
  | .next => ∃ σ' H', Inv X pins σ' H' s' ∧ D.nx σ' H'
  | .brk => ∃ σ' H', Inv X pins σ' H' s' ∧ D.bk σ' H'
  | .cont => ∃ σ' H', Inv X pins σ' H' s' ∧ D.ct σ' H'
  | .ret u => ∃ v σ' H', Inv X pins σ' H' s' ∧ RelV v u ∧ D.rt v H'

def PE (X : Cx) (e : Expr) (t : TE) : Prop :=
  ∀ (pins : List (Addr × Obj)) (s : Shared) (σ : St) (H : Hp) (Q : VK), Inv X pins σ H s → t σ H Q → wpAny (model X.prog X.w) X.A (eval e X.env) (EP X pins σ Q) X.xe s
def PT (X : Cx) (e : Expr) (t : TT) : Prop :=
  ∀ (pins : List (Addr × Obj)) (s : Shared) (σ : St) (H : Hp) (Q : Bool → Hp → Prop), Inv X pins σ H s → t σ H Q → wpAny (model X.prog X.w) X.A (isTrue e X.env (eval e X.env)) (TP X pins σ Q) X.xe s
/-- a test whatever its 'whole' is (and, or) -/
def PW (X : Cx) (e : Expr) (t : TT) : Prop :=
  ∀ (whole : Sem Value) (pins : List (Addr × Obj)) (s : Shared) (σ : St) (H : Hp) (Q : Bool → Hp → Prop), Inv X pins σ H s → t σ H Q → wpAny (model X.prog X.w) X.A (isTrue e X.env whole) (TP X pins σ Q) X.xe s
theorem PW.pt {X : Cx} {e : Expr} {t : TT} (h : PW X e t) : PT X e t := h _
/-- an argument list (no star), from the left -/
def PA (X : Cx) (es : List Expr) (t : TA) : Prop :=
  ∀ (pos : Pos) (pins : List (Addr × Obj)) (s : Shared) (σ : St) (H : Hp) (Q : List V → Hp → Prop), Inv X pins σ H s → t σ H Q → wpAny (model X.prog X.w) X.A (spliced (backTo pos (starEach es X.env))) (AP X pins σ Q) X.xe s
def PS (X : Cx) (st : Stmt) (t : TS) : Prop :=
  ∀ (pins : List (Addr × Obj)) (s : Shared) (σ : St) (H : Hp) (D : Ends), Inv X pins σ H s → t D σ H → wpAny (model X.prog X.w) X.A (exec st X.env) (SP X pins D) X.xe s
def PSs (X : Cx) (st : List Stmt) (t : TS) : Prop :=
  ∀ (pins : List (Addr × Obj)) (s : Shared) (σ : St) (H : Hp) (D : Ends), Inv X pins σ H s → t D σ H → wpAny (model X.prog X.w) X.A (execs st X.env) (SP X pins D) X.xe s
/-- weaken the end -/
theorem thn {α : Type} {t : Sem α} {Q Q' : α → Shared → Prop} {M : Model} {A : Around} {E : Value → Shared → Prop} {s : Shared} (h : wpAny M A t Q E s) (hQ : ∀ a s, Q a s → Q' a s) : wpAny M A t Q' E s := wpAny_mono h hQ fun _ _ x => x
end L2

namespace L2
open PySem PySem.Spec PyProof.Rows
section
variable {X : Cx}

/-! ### names and constants -/
def tVar (i : Nat) : TE := fun σ H Q => ∃ v, σ[i]? = some (some v) ∧ Q v H
def tC (v : V) : TE := fun _ H Q => Q v H
theorem pe_var {i : Nat} {x : Str} {pos : Pos} (hN : X.N[i]? = some x) (hv : Vis X.env.scope x) (hd : (x == ("__debug__" : Str)) = false := by decide) (hcd : (x == ("__classdict__" : Str)) = false := by decide) : PE X (.Name x pos) (tVar i) := by
  intro pins s σ H Q I h
  obtain ⟨v, e, h⟩ := h
  obtain ⟨m, hn, hl⟩ := I.loc
  obtain ⟨u, r, l⟩ := hl i x v hN e hv
  have fin : EP X pins σ Q u s := ⟨v, H, I, r, h⟩
  rcases l with ⟨hk, hm⟩ | ⟨hk, c, hc, hcell⟩
  · exact wpAny_Name (wpAny_loadName_local I.ok.kind hk hn hm fin) hd
  · rcases hk with hk | hk
    · exact wpAny_Name (wpAny_loadName_cell I.ok.kind hk hc hcell fin) hd
    · exact wpAny_Name (wpAny_loadName_free I.ok.kind hk hc hcell fin hcd) hd
theorem pe_int {i j pos} : PE X (.Constant (.int i) j pos) (tC (.int i)) := fun _ _ _ H _ I h => wpAny_Constant_int ⟨.int i, H, I.tok _, ⟨_, rfl⟩, h⟩
theorem pe_bl {b j pos} : PE X (.Constant (.bool b) j pos) (tC (.bl b)) := fun _ _ _ H _ I h => Constant_bool ⟨.bl b, H, I, rfl, h⟩
/-- a global name of the def -/
def Gl (X : Cx) (x : Str) : Prop := X.env.kindOf x = some .globalImplicit
theorem ld_glob {E : Value → Shared → Prop} {pins : List (Addr × Obj)} {s : Shared} {σ : St} {H : Hp} {x : Str} {u : Value} {pos : Pos} {Q : Value → Shared → Prop} (I : Inv X pins σ H s) (hg : Gl X x) (hm : X.mg x = some u) (h : Q u s)
    (hd : (x == ("__debug__" : Str)) = false := by decide) : wpAny (model X.prog X.w) X.A (eval (.Name x pos) X.env) Q E s :=
  Calls.Name_function_global I.ok.kind hg (Calls.loadGlobal_global (by rw [I.ok.glob]; exact I.mod.glob.keeps I.bk) hm h) hd
theorem ld_blt {E : Value → Shared → Prop} {pins : List (Addr × Obj)} {s : Shared} {σ : St} {H : Hp} {x : Str} {u : Value} {pos : Pos} {Q : Value → Shared → Prop} (I : Inv X pins σ H s) (hg : Gl X x) (hm : X.mg x = none) (hv : bootBuiltins x = some u) (h : Q u s)
    (hn : x ≠ "__name__" := by decide) (hd : (x == ("__debug__" : Str)) = false := by decide) : wpAny (model X.prog X.w) X.A (eval (.Name x pos) X.env) Q E s := by
  obtain ⟨mb, h1, h2⟩ := I.mod.blt
  exact Calls.Name_function_global I.ok.kind hg (Calls.loadGlobal_builtin (by rw [I.ok.glob]; exact I.mod.glob.keeps I.bk) hm (by rw [I.ok.blt]; exact h1.keeps I.bk) ((h2 x hn).trans hv) h) hd
/-- a module's constant, a class, a function, as a value -/
theorem pe_glob {x : Str} {v : V} {u : Value} {pos : Pos} (hg : Gl X x) (hm : X.mg x = some u) (r : RelV v u) (hd : (x == ("__debug__" : Str)) = false := by decide) : PE X (.Name x pos) (tC v) :=
  fun _ _ _ H _ I h => ld_glob I hg hm ⟨v, H, I, r, h⟩ hd
/-! ### arithmetic -/
/-- two ints -/
def t2I (ta tb : TE) (k : Int → Int → Hp → Prop) : St → Hp → Prop := fun σ H => ta σ H fun x H1 => tb σ H1 fun y H2 => ∃ i j, x = .int i ∧ y = .int j ∧ k i j H2
def tAdd (ta tb : TE) : TE := fun σ H Q => t2I ta tb (fun i j H2 => Q (.int (i + j)) H2) σ H
def tSub (ta tb : TE) : TE := fun σ H Q => t2I ta tb (fun i j H2 => Q (.int (i - j)) H2) σ H
/-- the left factor below 2^64 -/
def tMul (ta tb : TE) : TE := fun σ H Q => t2I ta tb (fun i j H2 => (-(2 ^ 64) < i ∧ i < 2 ^ 64) ∧ Q (.int (i * j)) H2) σ H
variable {a b : Expr} {ta tb : TE} {pos : Pos}
/-! ### comparisons -/
def PC (X : Cx) (op : CmpOp) (a b : Expr) (t : TE) : Prop :=
  ∀ (pins : List (Addr × Obj)) (s : Shared) (σ : St) (H : Hp) (Q : VK), Inv X pins σ H s → t σ H Q →
    wpAny (model X.prog X.w) X.A (eval a X.env) (fun v s₁ => wpAny (model X.prog X.w) X.A (eval b X.env) (fun u s₂ => wpAny (model X.prog X.w) X.A (compareOp op v u) (EP X pins σ Q) X.xe s₂) X.xe s₁) X.xe s
def tCmp (p : Int → Int → Bool) (ta tb : TE) : TE := fun σ H Q => t2I ta tb (fun i j H2 => Q (.bl (p i j)) H2) σ H
abbrev tLt : TE → TE → TE := tCmp fun i j => decide (i < j)
abbrev tLe : TE → TE → TE := tCmp fun i j => decide (i ≤ j)
abbrev tGt : TE → TE → TE := tCmp fun i j => decide (j < i)
abbrev tGe : TE → TE → TE := tCmp fun i j => decide (j ≤ i)
abbrev tEqI : TE → TE → TE := tCmp fun i j => decide (i = j)
abbrev tNeI : TE → TE → TE := tCmp fun i j => !decide (i = j)
/-- is None -/
def tIsN (ta : TE) : TE := fun σ H Q => ta σ H fun x H1 => Q (.bl (decide (x = .non))) H1
def tNotN (ta : TE) : TE := fun σ H Q => ta σ H fun x H1 => Q (.bl (!decide (x = .non))) H1
/-- a comparison as a value, as a test -/
def tB (t : TE) : TT := fun σ H Q => t σ H fun x H1 => ∃ c, x = .bl c ∧ Q c H1
/-! ### and, or, not -/
variable {tA tB' : TT} {rest : List Expr}
def tAnd (t u : TT) : TT := fun σ H Q => t σ H fun c H1 => if c = true then u σ H1 Q else Q false H1
def tOr (t u : TT) : TT := fun σ H Q => t σ H fun c H1 => if c = true then Q true H1 else u σ H1 Q
def tNot (t : TT) : TT := fun σ H Q => t σ H fun c H1 => Q (!c) H1
theorem pw_and1 (ha : PT X a tA) : PW X (.BoolOp .And [a] pos) tA := by
  intro wh pins s σ H Q I h
  refine isTrue_and (thn (ha pins s σ H Q I h) fun c s1 e => ?_)
  cases c with
  | true => exact isTrue_and_nil e
  | false => exact e
theorem pw_and (ha : PT X a tA) (hb : PW X (.BoolOp .And (b :: rest) pos) tB') : PW X (.BoolOp .And (a :: b :: rest) pos) (tAnd tA tB') := by
  intro wh pins s σ H Q I h
  refine isTrue_and (thn (ha pins s σ H _ I h) fun c s1 ⟨H1, I1, q1⟩ => ?_)
  cases c with
  | true => exact hb wh pins s1 σ H1 Q I1 q1
  | false => exact ⟨H1, I1, q1⟩
theorem pt_not (ha : PT X a tA) : PT X (.UnaryOp .Not a pos) (tNot tA) := by
  intro pins s σ H Q I h
  exact isTrue_not (ha pins s σ H (fun c H1 => Q (!c) H1) I h)
/-- .. as values (bools) -/
def tAndV (ta tb : TE) : TE := fun σ H Q => ta σ H fun x H1 => ∃ c, x = .bl c ∧ if c = true then tb σ H1 Q else Q (.bl false) H1
def tOrV (ta tb : TE) : TE := fun σ H Q => ta σ H fun x H1 => ∃ c, x = .bl c ∧ if c = true then Q (.bl true) H1 else tb σ H1 Q
def tNotV (ta : TE) : TE := fun σ H Q => ta σ H fun x H1 => ∃ c, x = .bl c ∧ Q (.bl (!c)) H1
theorem pe_one {op} {t : TE} (h : PE X a t) : PE X (.BoolOp op [a] pos) t := fun pins s σ H Q I hw => BoolOp_one (h pins s σ H Q I hw)
theorem pe_and (ha : PE X a ta) (hb : PE X (.BoolOp .And (b :: rest) pos) tb) : PE X (.BoolOp .And (a :: b :: rest) pos) (tAndV ta tb) := by
  intro pins s σ H Q I h
  refine BoolOp_and (thn (ha pins s σ H _ I h) fun v s1 ⟨x, H1, I1, r1, q1⟩ => ?_)
  obtain ⟨c, rfl, q1⟩ := q1
  cases r1
  refine wpAny_truthy_bool ?_
  cases c with
  | true => exact hb pins s1 σ H1 Q I1 q1
  | false => exact ⟨.bl false, H1, I1, rfl, q1⟩
/-- a if t else b -/
def tIf (t : TT) (ta tb : TE) : TE := fun σ H Q => t σ H fun c H1 => if c = true then ta σ H1 Q else tb σ H1 Q
end
end L2

namespace L2
open PySem PySem.Spec PyProof.Rows

/-! ### a list, a tuple that is read: tracked, frozen, or an object of the module -/
def SqL (K : PySem.W.Frag) (H : Hp) (a : Addr) (xs : List V) : Prop :=
  Rd H a (.lst xs) ∨
    ∃ (o : Obj) (its : Array Value) (n : Nat), K.lookup a = some o ∧ o.cls = .type "list" ∧ o.dict = none ∧ o.data = .seq its n ∧ its.size ≤ sizeLine ∧ Vals xs its.toList
def SqT (K : PySem.W.Frag) (H : Hp) (a : Addr) (xs : List V) : Prop :=
  Rd H a (.tup xs) ∨
    ∃ (o : Obj) (its : Array Value) (n : Nat), K.lookup a = some o ∧ o.cls = .type "tuple" ∧ o.data = .seq its n ∧ its.size ≤ sizeLine ∧ Vals xs its.toList
def absV : Value → Option V
  | .none => some .non
  | .bool b => some (.bl b)
  | .int i _ => some (.int i)
  | .str x _ => some (.str x)
  | .bytes b _ => some (.byt b)
  | .float b _ => some (.flt b)
  | .ref a => some (.ref a)
  | .type n => some (.ty n)
  | _ => none
theorem RelV.abs {x : V} {u : Value} (r : RelV x u) : absV u = some x := by
  cases x with
  | non => cases r; rfl
  | bl _ => cases r; rfl
  | int _ => obtain ⟨t, rfl⟩ := r; rfl
  | str _ => obtain ⟨t, rfl⟩ := r; rfl
  | byt _ => obtain ⟨t, rfl⟩ := r; rfl
  | flt _ => obtain ⟨t, rfl⟩ := r; rfl
  | ref _ => cases r; rfl
  | ty _ => cases r; rfl
theorem RelV.inj {x y : V} {u : Value} (r : RelV x u) (q : RelV y u) : x = y := Option.some.inj (r.abs.symm.trans q.abs)
theorem Vals.inj : ∀ {xs ys : List V} {us : List Value}, Vals xs us → Vals ys us → xs = ys
  | _, _, _, .nil, .nil => rfl
  | _, _, _, .cons r t, .cons r' t' => by rw [r.inj r', Vals.inj t t']
section
variable {X : Cx} {pins : List (Addr × Obj)} {σ : St} {H : Hp} {s : Shared} {a : Addr} {xs ys : List V}
theorem SqL.of {K : PySem.W.Frag} (h : H a = some (.lst xs)) : SqL K H a xs := .inl (.inl h)
theorem SqT.of {K : PySem.W.Frag} (h : H a = some (.tup xs)) : SqT K H a xs := .inl (.inl h)
theorem Inv.list (I : Inv X pins σ H s) (h : SqL X.K H a xs) : ∃ its : List Value, Vals xs its ∧ PlainL s.heap a its.toArray ∧ xs.length ≤ sizeLine := by
  rcases h with h | ⟨o, its, n, hk, hc, hd, hs, hz, r⟩
  · obtain ⟨z, its, n, r, e⟩ := h.ok I.hok
    exact ⟨its, r, ⟨_, n, e, rfl, rfl, rfl⟩, z⟩
  · refine ⟨its.toList, r, ⟨o, n, I.kIn a o hk, hc, hd, by simpa using hs⟩, ?_⟩
    have e := r.length
    simp only [Array.length_toList] at e
    omega
theorem Inv.tuple (I : Inv X pins σ H s) (h : SqT X.K H a xs) : ∃ its : List Value, Vals xs its ∧ IsTup s.heap a its.toArray ∧ xs.length ≤ sizeLine := by
  rcases h with h | ⟨o, its, n, hk, hc, hs, hz, r⟩
  · obtain ⟨z, its, r, p⟩ := h.ok I.hok
    exact ⟨its, r, p, z⟩
  · refine ⟨its.toList, r, ⟨o, I.kIn a o hk, hc, n, by simpa using hs⟩, ?_⟩
    have e := r.length
    simp only [Array.length_toList] at e
    omega
theorem Inv.list_inj (I : Inv X pins σ H s) (h : SqL X.K H a xs) (h' : SqL X.K H a ys) : xs = ys := by
  obtain ⟨its, r, ⟨o, n, e, _, _, d⟩, _⟩ := I.list h
  obtain ⟨its', r', ⟨o', n', e', _, _, d'⟩, _⟩ := I.list h'
  rw [e] at e'; cases e'
  rw [d] at d'
  injection d' with d1 _
  have : its = its' := by simpa using congrArg Array.toList d1
  subst this
  exact r.inj r'
end

/-! ### another wish about exceptions -/
abbrev Cx.wish (X : Cx) (E : Value → Shared → Prop) : Cx := { X with xe := E }
/-- no exception leaves -/
abbrev Cx.nox (X : Cx) : Cx := X.wish fun _ _ => False
theorem Cx.Ok.wish {X : Cx} (ok : X.Ok) (E : Value → Shared → Prop) : (X.wish E).Ok :=
  ⟨ok.mod, ok.kind, ok.glob, ok.blt, ok.above, ok.inj, ok.has, ok.cab, ok.hd, ok.frames, ok.stk, ok.exf, ok.bs, ok.bsz, ok.noex, ok.exfs, ok.funs, ok.frf⟩
theorem Cx.Ok.unwish {X : Cx} {E : Value → Shared → Prop} (ok : (X.wish E).Ok) : X.Ok :=
  ⟨ok.mod, ok.kind, ok.glob, ok.blt, ok.above, ok.inj, ok.has, ok.cab, ok.hd, ok.frames, ok.stk, ok.exf, ok.bs, ok.bsz, ok.noex, ok.exfs, ok.funs, ok.frf⟩
section
variable {X : Cx} {pins : List (Addr × Obj)} {σ : St} {H : Hp} {s : Shared} {E : Value → Shared → Prop}
theorem Inv.wish (I : Inv X pins σ H s) (E : Value → Shared → Prop) : Inv (X.wish E) pins σ H s := ⟨I.ok.wish E, I.os, I.bare, I.base, I.loc, I.cell, I.free, I.freeC, I.pin, I.hok, I.len⟩
theorem Inv.unwish (I : Inv (X.wish E) pins σ H s) : Inv X pins σ H s := ⟨I.ok.unwish, I.os, I.bare, I.base, I.loc, I.cell, I.free, I.freeC, I.pin, I.hok, I.len⟩
theorem SP.unwish {D : Ends} {f : Flow} {s' : Shared} (h : SP (X.wish E) pins D f s') : SP X pins D f s' := by
  cases f with
  | next => obtain ⟨σ', H', I, q⟩ := h; exact ⟨σ', H', I.unwish, q⟩
  | brk => obtain ⟨σ', H', I, q⟩ := h; exact ⟨σ', H', I.unwish, q⟩
  | cont => obtain ⟨σ', H', I, q⟩ := h; exact ⟨σ', H', I.unwish, q⟩
  | ret u => obtain ⟨v, σ', H', I, r, q⟩ := h; exact ⟨v, σ', H', I.unwish, r, q⟩
theorem PSs.nox {st : List Stmt} {t : TS} (h : PSs X.nox st t) : PSs X st t := fun pins s σ H D I hw =>
  wpAny_mono (h pins s σ H D (I.wish _) hw) (fun _ _ q => q.unwish) fun _ _ z => False.elim z
end

/-! ### blocks and small statements -/
section
variable {X : Cx} {st : Stmt} {rest : List Stmt} {t u : TS} {e : Expr} {te : TE} {pos : Pos}
def tNext : TS := fun D σ H => D.nx σ H
def tSeq (t u : TS) : TS := fun D σ H => t { D with nx := u D } σ H
theorem pss_nil : PSs X [] tNext := fun _ _ σ H _ I h => wpAny_execs_nil ⟨σ, H, I, h⟩
theorem pss_cons (h1 : PS X st t) (h2 : PSs X rest u) : PSs X (st :: rest) (tSeq t u) := by
  intro pins s σ H D I h
  refine wpAny_execs_cons (thn (h1 pins s σ H { D with nx := u D } I h) fun f s1 q => ?_)
  cases f with
  | next =>
    obtain ⟨σ', H', I', q⟩ := q
    exact h2 pins s1 σ' H' D I' q
  | ret v => exact q
  | brk => exact q
  | cont => exact q
theorem pss_one (h1 : PS X st t) : PSs X [st] t := by
  intro pins s σ H D I h
  refine wpAny_execs_cons (thn (h1 pins s σ H D I h) fun f s1 q => ?_)
  cases f with
  | next => exact wpAny_execs_nil q
  | ret v => exact q
  | brk => exact q
  | cont => exact q
def tBreak : TS := fun D σ H => D.bk σ H
def tCont : TS := fun D σ H => D.ct σ H
/-- in a def's body nothing is shown -/
theorem Inv.quiet {pins : List (Addr × Obj)} {σ : St} {H : Hp} {s : Shared} (I : Inv X pins σ H s) : interactive X.env = false := by simp [interactive, I.ok.kind]
/-- an expression whose value is dropped -/
def tDrop (te : TE) : TS := fun D σ H => te σ H fun _ H1 => D.nx σ H1
theorem ps_expr (he : PE X e te) (hs : swapsWith e none pos.line X.env = pure false := by rfl) : PS X (.Expr e pos) (tDrop te) := by
  intro pins s σ H D I h
  exact wpAny_Expr_any (thn (he pins s σ H _ I h) fun v s1 ⟨x, H1, I1, r1, q1⟩ => ⟨σ, H1, I1, q1⟩) I.quiet hs
def tRet (te : TE) : TS := fun D σ H => te σ H D.rt
theorem ps_ret (he : PE X e te) : PS X (.Return (some e) pos) (tRet te) := by
  intro pins s σ H D I h
  exact wpAny_Return_some (thn (he pins s σ H _ I h) fun v s1 ⟨x, H1, I1, r1, q1⟩ => ⟨x, σ, H1, I1, r1, q1⟩)
def tRetN : TS := fun D _ H => D.rt .non H
def tIfS (c : TT) (t u : TS) : TS := fun D σ H => c σ H fun b H1 => if b = true then t D σ H1 else u D σ H1
theorem ps_if {c : Expr} {a b : List Stmt} {tc : TT} (hc : PT X c tc) (ha : PSs X a t) (hb : PSs X b u) : PS X (.If c a b pos) (tIfS tc t u) := by
  intro pins s σ H D I h
  refine wpAny_If (thn (hc pins s σ H _ I h) fun d s1 ⟨H1, I1, q1⟩ => ?_)
  cases d with
  | true => exact ha pins s1 σ H1 D I1 q1
  | false => exact hb pins s1 σ H1 D I1 q1
/-- code that the proof never comes to -/
def tNever : TS := fun _ _ _ => False
theorem ps_never : PS X st tNever := fun _ _ _ _ _ _ h => h.elim
end

/-! ### targets -/
abbrev TG := V → St → Hp → (St → Hp → Prop) → Prop
abbrev TGs := List V → St → Hp → (St → Hp → Prop) → Prop
def PG (X : Cx) (target : Expr) (t : TG) : Prop :=
  ∀ (pins : List (Addr × Obj)) (s : Shared) (σ : St) (H : Hp) (v : V) (u : Value) (Q : St → Hp → Prop), Inv X pins σ H s → RelV v u → t v σ H Q →
    wpAny (model X.prog X.w) X.A (assign target X.env u) (fun _ s' => ∃ σ' H', Inv X pins σ' H' s' ∧ Q σ' H') X.xe s
/-- several targets, one after another -/
def PGs (X : Cx) (ts : List Expr) (t : TGs) : Prop :=
  ∀ (pins : List (Addr × Obj)) (s : Shared) (σ : St) (H : Hp) (vs : List V) (us : List Value) (Q : St → Hp → Prop), Inv X pins σ H s → Vals vs us → t vs σ H Q →
    wpAny (model X.prog X.w) X.A (assignInOrder ((assignEach ts X.env).map (·.2)) us) (fun _ s' => ∃ σ' H', Inv X pins σ' H' s' ∧ Q σ' H') X.xe s
/-- o[i] = v, by values -/
abbrev TSet := V → V → V → Hp → (Hp → Prop) → Prop
def PSet (X : Cx) (t : TSet) : Prop :=
  ∀ (pins : List (Addr × Obj)) (s : Shared) (σ : St) (H : Hp) (o i v : V) (ov iv u : Value) (Q : Hp → Prop), Inv X pins σ H s → RelV o ov → RelV i iv → RelV v u → t o i v H Q →
    wpAny (model X.prog X.w) X.A (setItem ov iv u) (fun _ s' => ∃ H', Inv X pins σ H' s' ∧ Q H') X.xe s
/-- a op= b, by values -/
abbrev TIp := V → V → Hp → VK → Prop
def PIp (X : Cx) (op : Operator) (t : TIp) : Prop :=
  ∀ (pins : List (Addr × Obj)) (s : Shared) (σ : St) (H : Hp) (x y : V) (v u : Value) (Q : VK), Inv X pins σ H s → RelV x v → RelV y u → t x y H Q →
    wpAny (model X.prog X.w) X.A (inplaceOp op v u) (EP X pins σ Q) X.xe s
section
variable {X : Cx} {pos : Pos}
def gName (i : Nat) : TG := fun v σ H Q => Q (σ.set i (some v)) H
theorem pg_name {i : Nat} {x : Str} (hN : X.N.Nodup) (hi : X.N[i]? = some x) (hx : Loc X.env.scope x) (hf : X.fn x = true ∨ X.env.scope.names.lookup x = some .local := by first | exact .inl rfl | exact .inr rfl | assumption) : PG X (.Name x pos) (gName i) := by
  intro pins s σ H v u Q I r h
  exact wpAny_assign_Name (store_ok I hN hi hx r (fun s' I' => ⟨_, H, I', h⟩) hf)
def gNil : TGs := fun vs σ H Q => vs = [] ∧ Q σ H
def gCons (t : TG) (u : TGs) : TGs := fun vs σ H Q => ∃ v r, vs = v :: r ∧ t v σ H fun σ' H' => u r σ' H' Q
theorem pgs_nil : PGs X [] gNil := by
  intro pins s σ H vs us Q I r h
  obtain ⟨e, h⟩ := h
  subst e
  cases r
  exact assignInOrder_nil ⟨σ, H, I, h⟩
theorem pgs_cons {e : Expr} {es : List Expr} {t : TG} {u : TGs} (h1 : PG X e t) (h2 : PGs X es u)
    (hs : (assignEach (e :: es) X.env).map (·.2) = assign e X.env :: (assignEach es X.env).map (·.2) := by rfl) : PGs X (e :: es) (gCons t u) := by
  intro pins s σ H vs us Q I r h
  obtain ⟨v, vr, e1, h⟩ := h
  subst e1
  cases r with
  | cons r rr =>
    rw [hs]
    refine assignInOrder_cons (thn (h1 pins s σ H _ _ _ I r h) fun _ s1 ⟨σ1, H1, I1, q1⟩ => ?_)
    exact h2 pins s1 σ1 H1 _ _ Q I1 rr q1
/-- (a, b, ..) = a tuple of that length -/
def gTup (K : PySem.W.Frag) (n : Nat) (t : TGs) : TG := fun v σ H Q => ∃ a xs, v = .ref a ∧ SqT K H a xs ∧ xs.length = n ∧ t xs σ H Q
theorem pg_tup {es : List Expr} {k : Nat} {t : TGs} {n : Nat} (hc : X.calm = true) (h : PGs X es t)
    (hn : (assignEach es X.env).length = n := by rfl) (hst : (assignEach es X.env).findIdx? (·.1) = none := by rfl) : PG X (.Tuple es k pos) (gTup X.K n t) := by
  intro pins s σ H v u Q I r hw
  obtain ⟨a, xs, e1, hq, hl, hw⟩ := hw
  subst e1
  cases r
  obtain ⟨its, rv, ht, hz⟩ := I.tuple hq
  refine assign_Tuple_tuple (I.ok.hd hc) ht (by simp [hn, ← hl, rv.length]) hst fun h' hx => ?_
  have I1 : Inv X pins σ H { s with heap := h' } := I.kept (t' := s.toks) fun b o e => hx b o (Nat.ne_of_lt (Heap.lt_size e)) e
  exact h pins _ σ H xs _ Q I1 (by simpa using rv) hw
/-- o[i] = .. -/
def gSub (to ti : TE) (t : TSet) : TG := fun v σ H Q => to σ H fun o H1 => ti σ H1 fun i H2 => t o i v H2 fun H3 => Q σ H3
/-- target = value -/
def tAsg (te : TE) (g : TG) : TS := fun D σ H => te σ H fun x H1 => g x σ H1 D.nx
theorem ps_asg {tg e : Expr} {te : TE} {g : TG} (he : PE X e te) (hg : PG X tg g) (hs : swapsWithSole [tg] e pos.line X.env = pure false := by rfl) (hw : swappedStores [tg] e X.env = pure none := by rfl)
    (h1 : (assignEach [tg] X.env).map (·.2) = [assign tg X.env] := by rfl) : PS X (.Assign [tg] e pos) (tAsg te g) := by
  intro pins s σ H D I h
  refine wpAny_Assign_stores (thn (he pins s σ H _ I h) fun v s1 ⟨x, H1, I1, r1, q1⟩ => ?_) hs hw
  rw [h1]
  exact thn (hg pins s1 σ H1 x v _ I1 r1 q1) fun _ s2 q => q
/-- name = value -/
theorem ps_set {i : Nat} {x : Str} {e : Expr} {te : TE} {pos' : Pos} (hN : X.N.Nodup) (hi : X.N[i]? = some x) (hx : Loc X.env.scope x) (he : PE X e te) (hs : swapsWith e (some (.Name x pos')) pos.line X.env = pure false := by rfl) (hf : X.fn x = true ∨ X.env.scope.names.lookup x = some .local := by first | exact .inl rfl | exact .inr rfl | assumption) :
    PS X (.Assign [.Name x pos'] e pos) (tAsg te (gName i)) := by
  intro pins s σ H D I h
  refine wpAny_Assign_Name (thn (he pins s σ H _ I h) fun v s1 ⟨y, H1, I1, r1, q1⟩ => ?_) hs
  exact store_ok I1 hN hi hx r1 (fun s2 I2 => ⟨_, H1, I2, q1⟩) hf
/-- a, b = x, y with plain local names: stored from the right; the pair itself is not tracked (the opening rows as in PyProof/Rows/TupAssign.lean:23) -/
def tPar (i j : Nat) (ta : TA) : TS := fun D σ H => ta σ H fun vs H1 => ∃ v w, vs = [v, w] ∧ D.nx ((σ.set i (some v)).set j (some w)) H1
/-- name op= e -/
def tAug (i : Nat) (te : TE) (ti : TIp) : TS := fun D σ H => ∃ x, σ[i]? = some (some x) ∧ te σ H fun y H1 => ti x y H1 fun z H2 => D.nx (σ.set i (some z)) H2
/-- o[i] op= e -/
def tAugS (to ti te : TE) (tget : V → V → Hp → VK → Prop) (tip : TIp) (tset : TSet) : TS := fun D σ H => to σ H fun o H1 => ti σ H1 fun i H2 => tget o i H2 fun x H3 => te σ H3 fun y H4 => tip x y H4 fun z H5 => tset o i z H5 fun H6 => D.nx σ H6
/-- o[i], by values -/
def PGet (X : Cx) (t : V → V → Hp → VK → Prop) : Prop :=
  ∀ (pins : List (Addr × Obj)) (s : Shared) (σ : St) (H : Hp) (o i : V) (ov iv : Value) (Q : VK), Inv X pins σ H s → RelV o ov → RelV i iv → t o i H Q →
    wpAny (model X.prog X.w) X.A (getItem ov iv) (EP X pins σ Q) X.xe s
/-- ints -/
def ipI (f : Int → Int → Int) : TIp := fun x y H Q => ∃ i j, x = .int i ∧ y = .int j ∧ Q (.int (f i j)) H
end

/-! ### while -/
section
variable {X : Cx} {pos : Pos}
/-- the invariant W with its measure -/
def tWhile (c : TT) (tb : TS) : TS := fun D σ H => ∃ W : Nat → St → Hp → Prop, (∃ m, W m σ H) ∧ ∀ m σ H, W m σ H →
  c σ H fun b H1 => if b = true then ∃ N : St → Hp → Prop, (∀ σ' H', N σ' H' → ∃ m', m' < m ∧ W m' σ' H') ∧ tb { D with nx := N, ct := N, bk := D.nx } σ H1 else D.nx σ H1
end

/-! ### what a loop or a comprehension walks -/
/-- at turn i: it yields x (the heap may grow), or it stops -/
structure It where
  go : Nat → Hp → Prop
  yld : Nat → Hp → V → Hp → Prop
  stop : Nat → Hp → Prop
/-- the iterator's own objects may turn: they are not the frame's, not pinned, younger than the entry (or a comprehension's own) -/
def FpOk (X : Cx) (pins : List (Addr × Obj)) (H : Hp) (b : Addr) : Prop :=
  H b = none ∧ b ≠ X.env.locals ∧ b ∉ X.fs ∧ (b ∈ X.ex ∨ X.s₀.heap.objs.size ≤ b) ∧ (∀ x c, X.env.cells.lookup x = some c → c ≠ b) ∧ ∀ p ∈ X.pn ++ pins, p.1 ≠ b
theorem Inv.fpOk {X : Cx} {pins : List (Addr × Obj)} {σ : St} {H H' : Hp} {s : Shared} {b : Addr} (I : Inv X pins σ H s) (hb : s.heap.objs.size ≤ b) (hn : H' b = none) : FpOk X pins H' b := by
  refine ⟨hn, Nat.ne_of_gt (Nat.lt_of_lt_of_le I.lt hb), I.nofs hb, .inr (Nat.le_trans I.sz hb), fun x c e z => ?_, fun p hp z => ?_⟩
  · obtain ⟨v, q⟩ := I.cell x c e
    exact absurd (Nat.lt_of_lt_of_le q.lt (by rw [z]; exact hb)) (Nat.lt_irrefl _)
  · exact absurd (Nat.lt_of_lt_of_le (Heap.lt_size (I.pin p hp).1) (by rw [z]; exact hb)) (Nat.lt_irrefl _)
structure Turn (P : Program) (w : World) (K : PySem.W.Frag) (tg : Expr) (J : It) (fp : List Addr) (it : Addr) (tn : Nat → Heap → Prop) : Prop where
  mem : it ∈ fp
  obj : ∀ i h, tn i h → ∀ b ∈ fp, ∃ o, h.get? b = some o ∧ ∀ v, o.data ≠ .cell v
  keep : ∀ i h h', tn i h → (∀ b ∈ fp, ∀ o, h.get? b = some o → h'.get? b = some o) → tn i h'
  item : ∀ (X : Cx), X.prog = P → X.w = w → X.K = K → X.calm = true → ∀ (i : Nat) (pins : List (Addr × Obj)) (s : Shared) (σ : St) (H : Hp) (E : Value → Shared → Prop), Inv X pins σ H s → (∀ b ∈ fp, FpOk X pins H b) → tn i s.heap → J.go i H →
    wpAny (model P w) X.A (pyNext (.ref it)) (fun r s1 => ∃ u, r = some u ∧
      wpAny (model P w) X.A (letOwnedTupleGo tg (.ref it) u) (fun _ s2 => ∃ x H', Inv X pins σ H' s2 ∧ RelV x u ∧ J.yld i H x H' ∧ tn (i + 1) s2.heap ∧ ∀ b ∈ fp, H' b = none) E s1) E s
  done : ∀ (X : Cx), X.prog = P → X.w = w → X.K = K → X.calm = true → ∀ (i : Nat) (pins : List (Addr × Obj)) (s : Shared) (σ : St) (H : Hp) (E : Value → Shared → Prop), Inv X pins σ H s → (∀ b ∈ fp, FpOk X pins H b) → tn i s.heap → J.stop i H →
    wpAny (model P w) X.A (pyNext (.ref it)) (fun r s1 => r = none ∧ Inv X pins σ H s1) E s
  self : ∀ (A : Around) (i : Nat) (s : Shared) (Q : Value → Shared → Prop) (E : Value → Shared → Prop), tn i s.heap → Q (.ref it) s → wpAny (model P w) A (pyIter (.ref it)) Q E s
abbrev TI := St → Hp → (It → Hp → Prop) → Prop
/-- an iterator has come -/
def PIE (X : Cx) (pins : List (Addr × Obj)) (σ : St) (tg : Expr) (R : It → Hp → Prop) (itv : Value) (s2 : Shared) : Prop :=
  ∃ (it : Addr) (fp : List Addr) (tn : Nat → Heap → Prop) (J : It) (H' : Hp), itv = .ref it ∧ Inv X pins σ H' s2 ∧ Turn X.prog X.w X.K tg J fp it tn ∧ tn 0 s2.heap ∧ (∀ b ∈ fp, FpOk X pins H' b) ∧ R J H'
def PI (X : Cx) (tg iter : Expr) (wi : TI) : Prop :=
  ∀ (pins : List (Addr × Obj)) (s : Shared) (σ : St) (H : Hp) (R : It → Hp → Prop), Inv X pins σ H s → wi σ H R →
    wpAny (model X.prog X.w) X.A (eval iter X.env) (fun v s1 => wpAny (model X.prog X.w) X.A (pyIter v) (PIE X pins σ tg R) X.xe s1) X.xe s

/-- the step ahead of the store is nothing for an iterator that keeps no tuple -/
theorem go_of {M : Model} {A : Around} {E : Value → Shared → Prop} {s : Shared} {tg : Expr} {it : Addr} {u : Value} {o : Obj} {n : String} {vs : Array Value} {Q : Unit → Shared → Prop} (ho : s.heap.get? it = some o) (hc : o.cls = .type n) (hd : o.data = .fields vs)
    (hn : ["enumerate", "zip", "dict_itemiterator", "dict_reverseitemiterator", "odict_iterator", "itertools.zip_longest", "itertools.pairwise"].contains n = false) (hQ : Q () s) : wpAny M A (letOwnedTupleGo tg (.ref it) u) Q E s := by
  unfold letOwnedTupleGo
  cases tg <;> first
    | exact wpAny_pure hQ
    | (cases u <;> first
        | exact wpAny_pure hQ
        | (refine wpAny_bind (wpAny_load ho ?_)
           rw [hc, hd]
           show wpAny M A (if (["enumerate", "zip", "dict_itemiterator", "dict_reverseitemiterator", "odict_iterator", "itertools.zip_longest", "itertools.pairwise"].contains n && vs[0]? == some (rawInt _)) = true then _ else _) Q E s
           rw [if_neg (by intro h; rw [hn, Bool.false_and] at h; cases h)]
           exact wpAny_pure hQ))

/-- the list at a, as it stands at each turn (a loop may append to it) -/
def Itl (K : PySem.W.Frag) (a : Addr) : It :=
  ⟨fun i H => ∃ xs x, SqL K H a xs ∧ xs[i]? = some x, fun i H x H' => H' = H ∧ ∀ xs, SqL K H a xs → xs[i]? = some x, fun i H => ∃ xs, SqL K H a xs ∧ xs.length ≤ i⟩
def Itt (K : PySem.W.Frag) (a : Addr) : It :=
  ⟨fun i H => ∃ xs x, SqT K H a xs ∧ xs[i]? = some x, fun i H x H' => H' = H ∧ ∀ xs, SqT K H a xs → xs[i]? = some x, fun i H => ∃ xs, SqT K H a xs ∧ xs.length ≤ i⟩
/-- lo, lo + 1, .. (n of them) -/
def Itr (lo : Int) (n : Nat) : It := ⟨fun i _ => i < n, fun i H x H' => H' = H ∧ x = .int (lo + i), fun i _ => n ≤ i⟩
theorem turn_list {P : Program} {w : World} {K : PySem.W.Frag} {tg : Expr} (a it : Addr) : Turn P w K tg (Itl K a) [it] it (fun i h => h.IsListIter it a i) where
  mem := by simp
  obj := fun i h st b hb => by
    have e : b = it := by simpa using hb
    subst e
    obtain ⟨o, e, c, d⟩ := st
    exact ⟨o, e, fun v z => by rw [d] at z; cases z⟩
  keep := fun i h h' st k => st.at fun o e => k it (by simp) o e
  item := by
    intro X hP hw hK hc i pins s σ H E I hf st hg
    subst hP hw hK
    obtain ⟨xs, x, hq, hx⟩ := hg
    obtain ⟨its, rv, p, hz⟩ := I.list hq
    obtain ⟨u, hu, ru⟩ := rv.get hx
    obtain ⟨f0, f1, f2, f3, f4, f5⟩ := hf it (by simp)
    refine wpAny_pyNext_list_item st p.isList (x := u) (by simpa using hu) fun h' st' sb => ?_
    have I1 : Inv X pins σ H { s with heap := h' } := I.turned (t' := s.toks) (fun b o hb e => (sb.2 b hb).trans e) f0 f1 f3 f4 f5
    obtain ⟨o, e, c, d⟩ := id st'
    exact ⟨u, rfl, go_of (s := { s with heap := h' }) e c d (by decide) ⟨x, H, I1, ru, ⟨rfl, fun ys hy => by rw [I.list_inj hy hq]; exact hx⟩, st', fun b hb => (hf b hb).1⟩⟩
  done := by
    intro X hP hw hK hc i pins s σ H E I hf st hg
    subst hP hw hK
    obtain ⟨xs, hq, hx⟩ := hg
    obtain ⟨its, rv, p, hz⟩ := I.list hq
    obtain ⟨f0, f1, f2, f3, f4, f5⟩ := hf it (by simp)
    have hl := rv.length
    exact wpAny_pyNext_list_end (I.ok.hd hc) st p.isList (by simp; omega) fun h' eb => ⟨rfl, I.turned (t' := s.toks) (fun b o hb e => eb b o hb e) f0 f1 f3 f4 f5⟩
  self := fun _ _ _ _ _ st h => wpAny_pyIter_listiter st h
theorem turn_range {P : Program} {w : World} {K : PySem.W.Frag} {tg : Expr} (it : Addr) (lo : Int) (n : Nat) : Turn P w K tg (Itr lo n) [it] it (fun i h => IsRangeIter h it (lo + (i : Nat) * 1) ((n : Int) - (i : Nat)) 1) where
  mem := by simp
  obj := fun i h st b hb => by
    have e : b = it := by simpa using hb
    subst e
    exact ⟨_, st, fun v z => by
      have z' : Data.fields _ = Data.cell v := z
      cases z'⟩
  keep := fun i h h' st k => k it (by simp) _ st
  item := by
    intro X hP hw hK hc i pins s σ H E I hf st hg
    subst hP hw hK
    obtain ⟨f0, f1, f2, f3, f4, f5⟩ := hf it (by simp)
    have W := Walks.range (prog := X.prog) (w := X.w) (I.ok.hd hc) it lo 1 n
    refine W.item i s _ _ hg st fun v h' tk hv st' kk => ?_
    obtain ⟨t, rfl⟩ := hv
    have I1 : Inv X pins σ H { s with heap := h', toks := tk } := I.turned (fun b o hb e => kk b o (by simpa using hb) e) f0 f1 f3 f4 f5
    refine ⟨_, rfl, go_of (s := { s with heap := h', toks := tk }) (n := "range_iterator") st' rfl rfl (by decide) ⟨.int (lo + i), H, I1, ⟨t, ?_⟩, ⟨rfl, rfl⟩, st', fun b hb => (hf b hb).1⟩⟩
    rw [Int.mul_one]
  done := by
    intro X hP hw hK hc i pins s σ H E I hf st hg
    subst hP hw hK
    obtain ⟨f0, f1, f2, f3, f4, f5⟩ := hf it (by simp)
    exact wpAny_pyNext_range_end (I.ok.hd hc) st (by have : n ≤ i := hg; omega) fun h' eb => ⟨rfl, I.turned (t' := s.toks) (fun b o hb e => eb b o hb e) f0 f1 f3 f4 f5⟩
  self := fun _ _ _ _ _ st h => wpAny_pyIter_rangeiter st h
end L2

namespace L2
open PySem PySem.Spec PyProof.Rows
section
variable {X : Cx} {tg : Expr}
def iList (K : PySem.W.Frag) (tl : TE) : TI := fun σ H R => tl σ H fun x H1 => ∃ a, x = .ref a ∧ (∃ xs, SqL K H1 a xs) ∧ R (Itl K a) H1
def iTup (K : PySem.W.Frag) (tl : TE) : TI := fun σ H R => tl σ H fun x H1 => ∃ a, x = .ref a ∧ (∃ xs, SqT K H1 a xs) ∧ R (Itt K a) H1
theorem pi_list {l : Expr} {tl : TE} (hl : PE X l tl) : PI X tg l (iList X.K tl) := by
  intro pins s σ H R I h
  refine thn (hl pins s σ H _ I h) fun v s1 ⟨x, H1, I1, r1, q1⟩ => ?_
  obtain ⟨a, e, ⟨xs, hq⟩, q⟩ := q1
  subst e
  cases r1
  obtain ⟨its, rv, p, hz⟩ := I1.list hq
  refine wpAny_pyIter_list p.isList ?_
  refine ⟨s1.heap.objs.size, [s1.heap.objs.size], _, _, H1, rfl, I1.kept (t' := s1.toks) fun b o e => Heap.get?_push_of_some _ e, turn_list a _, ⟨_, Heap.get?_push_size _ rfl, rfl, rfl⟩, fun b hb => ?_, q⟩
  have e : b = s1.heap.objs.size := by simpa using hb
  subst e
  exact I1.fpOk (Nat.le_refl _) (I1.hok.fresh (Nat.le_refl _))
/-- a range object just made, walked -/
theorem range_it {pins : List (Addr × Obj)} {σ : St} {H : Hp} {s : Shared} {R : It → Hp → Prop} {E : Value → Shared → Prop} {lo hi : Int} {t u v : Tok} {tk : Nat} (I : Inv X pins σ H s) (h1 : -(2 ^ 62) ≤ lo) (h2 : lo < 2 ^ 62) (h3 : -(2 ^ 62) ≤ hi) (h4 : hi < 2 ^ 62)
    (q : R (Itr lo (hi - lo).toNat) H) : wpAny (model X.prog X.w) X.A (pyIter (.ref s.heap.objs.size)) (PIE X pins σ tg R) E { s with heap := s.heap.push { cls := .type "range", data := .fields #[.int lo t, .int hi u, .int 1 v] }, toks := tk } := by
  refine wpAny_pyIter_range (IsRange.new ..) (small_one h1 h2 h3 h4) ?_
  have I1 : Inv X pins σ H { s with heap := s.heap.push { cls := .type "range", data := .fields #[.int lo t, .int hi u, .int 1 v] }, toks := tk } := I.kept fun b o e => Heap.get?_push_of_some _ e
  refine ⟨(s.heap.push { cls := .type "range", data := .fields #[.int lo t, .int hi u, .int 1 v] }).objs.size, [(s.heap.push { cls := .type "range", data := .fields #[.int lo t, .int hi u, .int 1 v] }).objs.size], _, _, H, rfl,
    I1.kept (t' := tk) fun b o e => Heap.get?_push_of_some _ e, turn_range _ lo (hi - lo).toNat, ?_, fun b hb => ?_, q⟩
  · have e1 : lo + ((0 : Nat) : Int) * 1 = lo := by simp
    have e2 : (((hi - lo).toNat : Nat) : Int) - ((0 : Nat) : Int) = Builtin.Range.rangeSize lo hi 1 := by rw [rangeSize_one]; split <;> omega
    show IsRangeIter _ _ (lo + ((0 : Nat) : Int) * 1) ((((hi - lo).toNat : Nat) : Int) - ((0 : Nat) : Int)) 1
    rw [e1, e2]
    exact Heap.get?_push_size _ rfl
  · have e : b = (s.heap.push { cls := .type "range", data := .fields #[.int lo t, .int hi u, .int 1 v] }).objs.size := by simpa using hb
    subst e
    exact I1.fpOk (Nat.le_refl _) (I1.hok.fresh (Nat.le_refl _))
def iRng1 (ta : TA) : TI := fun σ H R => ta σ H fun vs H1 => ∃ j : Int, vs = [.int j] ∧ -(2 ^ 62) ≤ j ∧ j < 2 ^ 62 ∧ R (Itr 0 j.toNat) H1
def iRng2 (ta : TA) : TI := fun σ H R => ta σ H fun vs H1 => ∃ i j : Int, vs = [.int i, .int j] ∧ (-(2 ^ 62) ≤ i ∧ i < 2 ^ 62 ∧ -(2 ^ 62) ≤ j ∧ j < 2 ^ 62) ∧ R (Itr i (j - i).toNat) H1
theorem pi_range1 {a : Expr} {ta : TA} {p pos : Pos} (hg : Gl X "range") (hm : X.mg "range" = none) (ha : PA X [a] ta) (hs : starEach [a] X.env = [(false, eval a X.env)] := by rfl) : PI X tg (.Call (.Name "range" p) [a] [] pos) (iRng1 ta) := by
  intro pins s σ H R I h
  refine Call_ (ld_blt I hg hm boot_range (PyProof.Rows.callWith_type1 (thn (ha pos pins s σ H _ I h) fun us s1 ⟨vs, H1, I1, r1, q1⟩ => ?_) hs rfl))
  obtain ⟨j, e, q1, q2, q⟩ := q1
  subst e
  cases r1 with
  | cons r rr =>
    cases rr
    obtain ⟨t, rfl⟩ := r
    exact call_range_1 (range_it I1 (by omega) (by omega) q1 q2 (by simpa using q))
/-! ### for -/
/-- W: the invariant by the turn and a measure; N: what the body is to reach -/
def tFor (wi : TI) (g : TG) (tb : TS) : TS := fun D σ H => wi σ H fun J H1 => ∃ W : Nat → Nat → St → Hp → Prop, (∃ m, W 0 m σ H1) ∧ ∀ i m σ H, W i m σ H →
  (J.stop i H ∧ D.nx σ H) ∨ (J.go i H ∧ ∃ N : St → Hp → Prop, (∀ σ' H', N σ' H' → ∃ m', m' < m ∧ W (i + 1) m' σ' H') ∧ ∀ x H', J.yld i H x H' → g x σ H' fun σ2 H2 => tb { D with nx := N, ct := N, bk := D.nx } σ2 H2)
/-- the records at fp as they stand -/
def pinsAt (fp : List Addr) (h : Heap) : List (Addr × Obj) := fp.filterMap fun b => (h.get? b).map fun o => (b, o)
theorem mem_pinsAt {fp : List Addr} {h : Heap} {b : Addr} {o : Obj} (hb : b ∈ fp) (e : h.get? b = some o) : (b, o) ∈ pinsAt fp h := List.mem_filterMap.mpr ⟨b, hb, by rw [e]; rfl⟩
theorem of_pinsAt {fp : List Addr} {h : Heap} {p : Addr × Obj} (hp : p ∈ pinsAt fp h) : p.1 ∈ fp ∧ h.get? p.1 = some p.2 := by
  obtain ⟨b, hb, e⟩ := List.mem_filterMap.mp hp
  cases q : h.get? b with
  | none => rw [q] at e; cases e
  | some o =>
    rw [q] at e
    have e' : (b, o) = p := Option.some.inj e
    subst e'
    exact ⟨hb, q⟩
theorem Inv.pinned {pins : List (Addr × Obj)} {σ : St} {H : Hp} {s : Shared} {fp : List Addr} (I : Inv X pins σ H s) (hf : ∀ b ∈ fp, FpOk X pins H b) (ho : ∀ b ∈ fp, ∃ o, s.heap.get? b = some o ∧ ∀ v, o.data ≠ .cell v) : Inv X (pins ++ pinsAt fp s.heap) σ H s :=
  I.pins_of fun p hp => (List.mem_append.mp hp).elim (fun z => I.pin p (List.mem_append_right _ z)) fun z => by
    obtain ⟨hb, e⟩ := of_pinsAt z
    obtain ⟨f0, f1, f2, _⟩ := hf p.1 hb
    obtain ⟨o, e', d⟩ := ho p.1 hb
    rw [e] at e'; cases e'
    exact ⟨e, f0, f1, f2, d⟩
theorem Inv.unpinned {pins pl : List (Addr × Obj)} {σ : St} {H : Hp} {s : Shared} (I : Inv X (pins ++ pl) σ H s) : Inv X pins σ H s := I.pins_of fun p hp => I.pin p (List.mem_append_right _ (List.mem_append_left _ hp))
theorem ps_for {iter : Expr} {body : List Stmt} {wi : TI} {g : TG} {tb : TS} {pos : Pos} (hp : PassesOwn (model X.prog X.w) X.A X.env X.xe) (hc : X.calm = true) (hi : PI X tg iter wi) (hg : PG X tg g) (hb : PSs X body tb)
    (hs : ∀ x, foldedSetIterable iter X.env x = pure x := by intro _; rfl) : PS X (.For tg iter body [] pos) (tFor wi g tb) := by
  intro pins s σ H D I h
  refine wpAny_For (thn (hi pins s σ H _ I h) fun v s1 h1 => thn h1 fun itv s2 h2 => ?_) hs
  obtain ⟨it, fp, tn, J, H2, e, I2, T, st2, f2, W, ⟨m0, w0⟩, turn⟩ := h2
  subst e
  -- what stays true of the iterator's objects through the loop
  have stat : ∀ {H' : Hp}, (∀ b ∈ fp, H' b = none) → ∀ b ∈ fp, FpOk X pins H' b := fun hn b hb => ⟨hn b hb, (f2 b hb).2⟩
  refine codeAny_forLoop_any (fun n s' => ∃ i σ' H', Inv X pins σ' H' s' ∧ tn i s'.heap ∧ (∀ b ∈ fp, H' b = none) ∧ W i n σ' H') ?_ m0 ⟨0, σ, H2, I2, st2, fun b hb => (f2 b hb).1, w0⟩
  rintro n s3 ⟨i, σ3, H3, I3, st3, fr3, w3⟩
  rcases turn i n σ3 H3 w3 with ⟨stop, qn⟩ | ⟨go, N, hN, step⟩
  · refine wpAny_passesOwn hp (thn (T.done X rfl rfl rfl hc i pins s3 σ3 H3 X.xe I3 (stat fr3) st3 stop) fun r s4 ⟨hr, I4⟩ => ?_)
    subst hr
    exact wpAny_execs_nil ⟨σ3, H3, I4, qn⟩
  · refine wpAny_passesOwn hp (thn (T.item X rfl rfl rfl hc i pins s3 σ3 H3 X.xe I3 (stat fr3) st3 go) fun r s4 ⟨u, hr, h4⟩ => ?_)
    subst hr
    refine wpAny_passesOwn hp (thn h4 fun _ s5 ⟨x, H5, I5, r5, y5, st5, fr5⟩ => ?_)
    have I5' := I5.pinned (stat fr5) (T.obj _ _ st5)
    refine wpAny_passesOwn hp (thn (hg _ s5 σ3 H5 x u _ I5' r5 (step x H5 y5)) fun _ s6 ⟨σ6, H6, I6, q6⟩ => ?_)
    refine wpAny_passesOwn hp (thn (hb _ s6 σ6 H6 _ I6 q6) fun f s7 q7 => ?_)
    have again : ∀ {σ7 : St} {H7 : Hp}, Inv X (pins ++ pinsAt fp s5.heap) σ7 H7 s7 → N σ7 H7 → ∃ m, m < n ∧ ∃ i σ' H', Inv X pins σ' H' s7 ∧ tn i s7.heap ∧ (∀ b ∈ fp, H' b = none) ∧ W i m σ' H' := fun {σ7 H7} I7 n7 => by
      obtain ⟨m', hm, w7⟩ := hN σ7 H7 n7
      refine ⟨m', hm, i + 1, σ7, H7, I7.unpinned, T.keep _ _ _ st5 fun b hb o e => (I7.pin (b, o) (List.mem_append_right _ (List.mem_append_right _ (mem_pinsAt hb e)))).1, fun b hb => ?_, w7⟩
      obtain ⟨o, e, d⟩ := T.obj _ _ st5 b hb
      exact (I7.pin (b, o) (List.mem_append_right _ (List.mem_append_right _ (mem_pinsAt hb e)))).2.1
    cases f with
    | next => obtain ⟨σ7, H7, I7, n7⟩ := q7; exact again I7 n7
    | cont => obtain ⟨σ7, H7, I7, n7⟩ := q7; exact again I7 n7
    | brk => obtain ⟨σ7, H7, I7, q7⟩ := q7; exact ⟨σ7, H7, I7.unpinned, q7⟩
    | ret v => obtain ⟨x7, σ7, H7, I7, r7, q7⟩ := q7; exact ⟨x7, σ7, H7, I7.unpinned, r7, q7⟩
end

/-! ### the forms one uses -/
/-- over a list that the body leaves as it is -/
theorem for_list {K : PySem.W.Frag} {a : Addr} {xs : List V} {g : TG} {tb : TS} {D : Ends} {σ : St} {H : Hp} (Pv : Nat → St → Hp → Prop) (h0 : Pv 0 σ H) (hl : ∀ i σ H, i ≤ xs.length → Pv i σ H → SqL K H a xs)
    (hs : ∀ i x σ H, xs[i]? = some x → Pv i σ H → g x σ H fun σ2 H2 => tb { D with nx := Pv (i + 1), ct := Pv (i + 1), bk := D.nx } σ2 H2) (hd : ∀ σ H, Pv xs.length σ H → D.nx σ H) :
    ∃ W : Nat → Nat → St → Hp → Prop, (∃ m, W 0 m σ H) ∧ ∀ i m σ H, W i m σ H →
      ((Itl K a).stop i H ∧ D.nx σ H) ∨ ((Itl K a).go i H ∧ ∃ N : St → Hp → Prop, (∀ σ' H', N σ' H' → ∃ m', m' < m ∧ W (i + 1) m' σ' H') ∧ ∀ x H', (Itl K a).yld i H x H' → g x σ H' fun σ2 H2 => tb { D with nx := N, ct := N, bk := D.nx } σ2 H2) := by
  refine ⟨fun i m σ H => m = xs.length - i ∧ i ≤ xs.length ∧ Pv i σ H, ⟨xs.length, by simp, Nat.zero_le _, h0⟩, ?_⟩
  rintro i m σ H ⟨rfl, hi, p⟩
  have q := hl i σ H hi p
  by_cases hlt : i < xs.length
  · refine .inr ⟨⟨xs, xs[i], q, by simp [hlt]⟩, Pv (i + 1), fun σ' H' p' => ⟨xs.length - (i + 1), by omega, rfl, hlt, p'⟩, fun x H' y => ?_⟩
    obtain ⟨e, y⟩ := y
    subst e
    exact hs i x σ _ (y xs q) p
  · have e : i = xs.length := by omega
    subst e
    exact .inl ⟨⟨xs, q, Nat.le_refl _⟩, hd σ H p⟩
theorem for_range {lo : Int} {n : Nat} {g : TG} {tb : TS} {D : Ends} {σ : St} {H : Hp} (Pv : Nat → St → Hp → Prop) (h0 : Pv 0 σ H)
    (hs : ∀ i σ H, i < n → Pv i σ H → g (.int (lo + i)) σ H fun σ2 H2 => tb { D with nx := Pv (i + 1), ct := Pv (i + 1), bk := D.nx } σ2 H2) (hd : ∀ σ H, Pv n σ H → D.nx σ H) :
    ∃ W : Nat → Nat → St → Hp → Prop, (∃ m, W 0 m σ H) ∧ ∀ i m σ H, W i m σ H →
      ((Itr lo n).stop i H ∧ D.nx σ H) ∨ ((Itr lo n).go i H ∧ ∃ N : St → Hp → Prop, (∀ σ' H', N σ' H' → ∃ m', m' < m ∧ W (i + 1) m' σ' H') ∧ ∀ x H', (Itr lo n).yld i H x H' → g x σ H' fun σ2 H2 => tb { D with nx := N, ct := N, bk := D.nx } σ2 H2) := by
  refine ⟨fun i m σ H => m = n - i ∧ i ≤ n ∧ Pv i σ H, ⟨n, by simp, Nat.zero_le _, h0⟩, ?_⟩
  rintro i m σ H ⟨rfl, hi, p⟩
  by_cases hlt : i < n
  · refine .inr ⟨hlt, Pv (i + 1), fun σ' H' p' => ⟨n - (i + 1), by omega, rfl, hlt, p'⟩, fun x H' y => ?_⟩
    obtain ⟨e, y⟩ := y
    subst e y
    exact hs i σ _ hlt p
  · have e : i = n := by omega
    subst e
    exact .inl ⟨Nat.le_refl _, hd σ H p⟩
end L2

namespace L2
open PySem PySem.Spec PyProof.Rows

abbrev R2 := V → V → Hp → VK → Prop
/-- a two-place operation on values: f is binaryOp op, inplaceOp op or compareOp op -/
def OpR (X : Cx) (f : Value → Value → Sem Value) (r : R2) : Prop :=
  ∀ (pins : List (Addr × Obj)) (s : Shared) (σ : St) (H : Hp) (x y : V) (v u : Value) (Q : VK), Inv X pins σ H s → RelV x v → RelV y u → r x y H Q →
    wpAny (model X.prog X.w) X.A (f v u) (EP X pins σ Q) X.xe s
/-- a one-place operation -/
def UnR (X : Cx) (f : Value → Sem Value) (r : V → Hp → VK → Prop) : Prop :=
  ∀ (pins : List (Addr × Obj)) (s : Shared) (σ : St) (H : Hp) (x : V) (v : Value) (Q : VK), Inv X pins σ H s → RelV x v → r x H Q →
    wpAny (model X.prog X.w) X.A (f v) (EP X pins σ Q) X.xe s
/-- a call of a value that is known (a builtin, a type) with values -/
def CallR (X : Cx) (f : Value) (r : List V → Hp → VK → Prop) : Prop :=
  ∀ (pins : List (Addr × Obj)) (s : Shared) (σ : St) (H : Hp) (xs : List V) (us : List Value) (Q : VK), Inv X pins σ H s → Vals xs us → r xs H Q →
    wpAny (model X.prog X.w) X.A (call f us) (EP X pins σ Q) X.xe s
/-- a value's truth -/
def TruR (X : Cx) (r : V → Hp → (Bool → Hp → Prop) → Prop) : Prop :=
  ∀ (pins : List (Addr × Obj)) (s : Shared) (σ : St) (H : Hp) (x : V) (v : Value) (Q : Bool → Hp → Prop), Inv X pins σ H s → RelV x v → r x H Q →
    wpAny (model X.prog X.w) X.A (truthy v) (TP X pins σ Q) X.xe s

def tOp (r : R2) (ta tb : TE) : TE := fun σ H Q => ta σ H fun x H1 => tb σ H1 fun y H2 => r x y H2 Q
def tUn (r : V → Hp → VK → Prop) (ta : TE) : TE := fun σ H Q => ta σ H fun x H1 => r x H1 Q
/-- ints in, under C, and a value out -/
def rI (C : Int → Int → Prop) (g : Int → Int → V) : R2 := fun x y H Q => ∃ i j, x = .int i ∧ y = .int j ∧ C i j ∧ Q (g i j) H
def rI0 (g : Int → Int → V) : R2 := fun x y H Q => ∃ i j, x = .int i ∧ y = .int j ∧ Q (g i j) H
def rU (g : Int → V) : V → Hp → VK → Prop := fun x H Q => ∃ i, x = .int i ∧ Q (g i) H

section
variable {X : Cx} {a b c : Expr} {ta tb tc : TE} {pos : Pos}

theorem binT (ha : PE X a ta) (hb : PE X b tb) {pins : List (Addr × Obj)} {s : Shared} {σ : St} {H : Hp} {R : V → V → Hp → Prop} (I : Inv X pins σ H s)
    (h : ta σ H fun x H1 => tb σ H1 fun y H2 => R x y H2) {Q : Value → Shared → Prop} {f : Value → Value → Sem Value}
    (hf : ∀ v u s2 x y H2, Inv X pins σ H2 s2 → RelV x v → RelV y u → R x y H2 → wpAny (model X.prog X.w) X.A (f v u) Q X.xe s2) :
    wpAny (model X.prog X.w) X.A (eval a X.env) (fun v s₁ => wpAny (model X.prog X.w) X.A (eval b X.env) (fun u s₂ => wpAny (model X.prog X.w) X.A (f v u) Q X.xe s₂) X.xe s₁) X.xe s := by
  refine thn (ha pins s σ H _ I h) fun v s1 ⟨x, H1, I1, r1, q1⟩ => ?_
  refine thn (hb pins s1 σ H1 _ I1 q1) fun u s2 ⟨y, H2, I2, r2, q2⟩ => ?_
  exact hf v u s2 x y H2 I2 r1 r2 q2

theorem pe_op {op : Operator} {r : R2} (ho : OpR X (binaryOp op) r) (ha : PE X a ta) (hb : PE X b tb) : PE X (.BinOp a op b pos) (tOp r ta tb) := by
  intro pins s σ H Q I h
  exact wpAny_BinOp (binT ha hb I h fun v u s2 x y H2 I2 rx ry q => ho pins s2 σ H2 x y v u Q I2 rx ry q)
theorem pe_un {op : UnaryOp} {r : V → Hp → VK → Prop} (ho : UnR X (unaryOp op) r) (ha : PE X a ta) : PE X (.UnaryOp op a pos) (tUn r ta) := by
  intro pins s σ H Q I h
  exact UnaryOp_ (thn (ha pins s σ H _ I h) fun v s1 ⟨x, H1, I1, r1, q1⟩ => ho pins s1 σ H1 x v Q I1 r1 q1)
/-! ### ints -/
theorem opI {f : Value → Value → Sem Value} {C : Int → Int → Prop} {g : Int → Int → Int}
    (rule : ∀ (i j : Int) (t u : Tok) (s : Shared) (Q : Value → Shared → Prop) (E : Value → Shared → Prop), C i j → Q (.int (g i j) s.toks) { s with toks := s.toks + 1 } → wpAny (model X.prog X.w) X.A (f (.int i t) (.int j u)) Q E s) :
    OpR X f (rI C fun i j => .int (g i j)) := by
  intro pins s σ H x y v u Q I rx ry h
  obtain ⟨i, j, rfl, rfl, hc, q⟩ := h
  obtain ⟨t, rfl⟩ := rx
  obtain ⟨t', rfl⟩ := ry
  exact rule i j t t' s _ _ hc ⟨.int (g i j), H, I.tok _, ⟨_, rfl⟩, q⟩
theorem opI0 {f : Value → Value → Sem Value} {g : Int → Int → Int}
    (rule : ∀ (i j : Int) (t u : Tok) (s : Shared) (Q : Value → Shared → Prop) (E : Value → Shared → Prop), Q (.int (g i j) s.toks) { s with toks := s.toks + 1 } → wpAny (model X.prog X.w) X.A (f (.int i t) (.int j u)) Q E s) :
    OpR X f (rI0 fun i j => .int (g i j)) := by
  intro pins s σ H x y v u Q I rx ry h
  obtain ⟨i, j, rfl, rfl, q⟩ := h
  obtain ⟨t, rfl⟩ := rx
  obtain ⟨t', rfl⟩ := ry
  exact rule i j t t' s _ _ ⟨.int (g i j), H, I.tok _, ⟨_, rfl⟩, q⟩
theorem opB0 {f : Value → Value → Sem Value} {g : Int → Int → Bool}
    (rule : ∀ (i j : Int) (t u : Tok) (s : Shared) (Q : Value → Shared → Prop) (E : Value → Shared → Prop), Q (.bool (g i j)) s → wpAny (model X.prog X.w) X.A (f (.int i t) (.int j u)) Q E s) :
    OpR X f (rI0 fun i j => .bl (g i j)) := by
  intro pins s σ H x y v u Q I rx ry h
  obtain ⟨i, j, rfl, rfl, q⟩ := h
  obtain ⟨t, rfl⟩ := rx
  obtain ⟨t', rfl⟩ := ry
  exact rule i j t t' s _ _ ⟨.bl (g i j), H, I, rfl, q⟩

def CDiv (i j : Int) : Prop := 0 < j ∧ j < 1073741824
def CDivN (i j : Int) : Prop := j ≠ 0 ∧ j.natAbs < 1073741824
def CPow (i j : Int) : Prop := 0 ≤ j ∧ j ≤ 1000000 ∧ i.natAbs < 2 ^ 64
def CMul (i j : Int) : Prop := (-(2 ^ 64) < i ∧ i < 2 ^ 64) ∨ (-(2 ^ 64) < j ∧ j < 2 ^ 64)
theorem CMul.ok {i j : Int} (h : CMul i j) : IntMulOk i j := by
  rcases h with ⟨h1, h2⟩ | ⟨h1, h2⟩
  · exact .of_left (intBits_le_64 h1 h2)
  · exact .of_right (intBits_le_64 h1 h2)
theorem op_add : OpR X (binaryOp .Add) (rI0 fun i j => .int (i + j)) := opI0 fun _ _ _ _ _ _ _ q => add_int q
theorem op_sub : OpR X (binaryOp .Sub) (rI0 fun i j => .int (i - j)) := opI0 fun _ _ _ _ _ _ _ q => sub_int q
theorem op_mul : OpR X (binaryOp .Mult) (rI CMul fun i j => .int (i * j)) := opI fun _ _ _ _ _ _ _ hc q => mul_int q hc.ok
/-- // by a positive divisor -/
theorem op_fdiv : OpR X (binaryOp .FloorDiv) (rI CDiv fun i j => .int (i / j)) := opI fun i j _ _ _ _ _ hc q => by
  have h1 : (0 : Int) < j := hc.1
  have h2 : j < 1073741824 := hc.2
  exact floordiv_int (by omega) (by rw [Int.fdiv_eq_ediv_of_nonneg i (by omega)]; exact q) (.inl (PyProof.noPylong_small (by omega)))
/-- % by a positive divisor of any size -/
theorem op_mod : OpR X (binaryOp .Mod) (rI (fun _ j => 0 < j) fun i j => .int (i % j)) := opI fun i j _ _ _ _ _ hc q => by
  have h1 : (0 : Int) < j := hc
  exact mod_int' (by omega) (by rw [Int.fmod_eq_emod_of_nonneg i (by omega)]; exact q)
theorem op_pow : OpR X (binaryOp .Pow) (rI CPow fun i j => .int (i ^ j.toNat)) := opI fun _ _ _ _ _ _ _ hc q => pow_int_small hc.1 hc.2.1 hc.2.2 q
theorem unI {f : Value → Sem Value} {g : Int → Int}
    (rule : ∀ (i : Int) (t : Tok) (s : Shared) (Q : Value → Shared → Prop) (E : Value → Shared → Prop), Q (.int (g i) s.toks) { s with toks := s.toks + 1 } → wpAny (model X.prog X.w) X.A (f (.int i t)) Q E s) :
    UnR X f (rU fun i => .int (g i)) := by
  intro pins s σ H x v Q I rx h
  obtain ⟨i, rfl, q⟩ := h
  obtain ⟨t, rfl⟩ := rx
  exact rule i t s _ _ ⟨.int (g i), H, I.tok _, ⟨_, rfl⟩, q⟩
theorem un_neg : UnR X (unaryOp .USub) (rU fun i => .int (-i)) := unI fun _ _ _ _ _ q => neg_int q
/-! ### bools among ints: n += (a < b) -/
end

/-! ### comparisons -/
/-- the scalars that == tells apart as data does -/
def scal : V → V → Bool
  | .non, .non => true | .non, .int _ => true | .int _, .non => true | .non, .bl _ => true | .bl _, .non => true | .non, .str _ => true | .str _, .non => true
  | .int _, .int _ => true | .bl _, .bl _ => true | .str _, .str _ => true | .byt _, .byt _ => true
  | .int _, .str _ => true | .str _, .int _ => true | .bl _, .str _ => true | .str _, .bl _ => true
  | _, _ => false
def rEq : R2 := fun x y H Q => scal x y = true ∧ Q (.bl (decide (x = y))) H
def rNe : R2 := fun x y H Q => scal x y = true ∧ Q (.bl (!decide (x = y))) H

section
variable {X : Cx} {a b c : Expr} {ta tb tc : TE} {pos : Pos}
theorem op_lt : OpR X (compareOp .Lt) (rI0 fun i j => .bl (decide (i < j))) := opB0 fun _ _ _ _ _ _ _ q => lt_int q
theorem op_le : OpR X (compareOp .LtE) (rI0 fun i j => .bl (decide (i ≤ j))) := opB0 fun _ _ _ _ _ _ _ q => le_int q
theorem op_gt : OpR X (compareOp .Gt) (rI0 fun i j => .bl (decide (j < i))) := opB0 fun _ _ _ _ _ _ _ q => gt_int q
theorem op_ge : OpR X (compareOp .GtE) (rI0 fun i j => .bl (decide (j ≤ i))) := opB0 fun _ _ _ _ _ _ _ q => ge_int q
/-- is, is not of two objects that are tracked lists or instances -/
def isObj : HO → Bool
  | .lst _ => true
  | .ins _ _ _ => true
  | _ => false
/-- two rules for one operation: by cases -/
theorem OpR.or {f : Value → Value → Sem Value} {r r' : R2} (h : OpR X f r) (h' : OpR X f r') : OpR X f (fun x y H Q => r x y H Q ∨ r' x y H Q) := by
  intro pins s σ H x y v u Q I rx ry q
  rcases q with q | q
  · exact h pins s σ H x y v u Q I rx ry q
  · exact h' pins s σ H x y v u Q I rx ry q

theorem nomark (b : Expr) {op : CmpOp} (h : op ≠ .In := by decide) (h2 : op ≠ .NotIn := by decide) : behindInMarks op b = false := by
  have e1 : (op == CmpOp.In) = false := by cases op <;> first | rfl | exact absurd rfl h
  have e2 : (op == CmpOp.NotIn) = false := by cases op <;> first | rfl | exact absurd rfl h2
  cases b <;> simp [behindInMarks, e1, e2]
/-- a comparison as a value; hm: nomark b, or (for in, not in) by with_unfolding_all rfl -/
theorem pe_cmpR {op : CmpOp} {r : R2} (ho : OpR X (compareOp op) r) (ha : PE X a ta) (hb : PE X b tb) (hm : behindInMarks op b = false) : PE X (.Compare a [op] [b] pos) (tOp r ta tb) := by
  intro pins s σ H Q I h
  exact wpAny_Compare1 (binT ha hb I h fun v u s2 x y H2 I2 rx ry q => ho pins s2 σ H2 x y v u Q I2 rx ry q) hm
/-- a reading of a value as a test -/
def tTest (t : TE) : TT := fun σ H Q => t σ H fun x H' => ∃ k, x = .bl k ∧ Q k H'
theorem pt_cmpR {op : CmpOp} {r : R2} (ho : OpR X (compareOp op) r) (ha : PE X a ta) (hb : PE X b tb) (hm : behindInMarks op b = false) : PT X (.Compare a [op] [b] pos) (tTest (tOp r ta tb)) := by
  intro pins s σ H Q I h
  refine wpAny_isTrue_Compare1 (thn (ha pins s σ H _ I h) fun v s1 ⟨x, H1, I1, r1, q1⟩ => thn (hb pins s1 σ H1 _ I1 q1) fun u s2 ⟨y, H2, I2, r2, q2⟩ =>
    thn (ho pins s2 σ H2 x y v u _ I2 r1 r2 q2) fun c s3 ⟨z, H3, I3, r3, k, e, q3⟩ => ?_) hm
  subst e
  cases r3
  exact wpAny_truthy_bool ⟨H3, I3, q3⟩
/-- a op1 b op2 c -/
def tChain (r r' : R2) (ta tb tc : TE) : TE := fun σ H Q => ta σ H fun x H1 => tb σ H1 fun y H2 => r x y H2 fun z H3 => ∃ k, z = .bl k ∧
  (if k = true then tc σ H3 fun w' H4 => r' y w' H4 Q else Q (.bl false) H3)
theorem pe_chain {op op' : CmpOp} {r r' : R2} (ho : OpR X (compareOp op) r) (ho' : OpR X (compareOp op') r') (ha : PE X a ta) (hb : PE X b tb) (hc : PE X c tc)
    (hm : lastMarks [op, op'] [b, c] = false := by with_unfolding_all rfl) : PE X (.Compare a [op, op'] [b, c] pos) (tChain r r' ta tb tc) := by
  intro pins s σ H Q I h
  refine Compare_chain (thn (ha pins s σ H _ I h) fun v s1 ⟨x, H1, I1, r1, q1⟩ => chain_link (thn (hb pins s1 σ H1 _ I1 q1) fun u s2 ⟨y, H2, I2, r2, q2⟩ =>
    thn (ho pins s2 σ H2 x y v u _ I2 r1 r2 q2) fun d s3 ⟨z, H3, I3, r3, k, e, q3⟩ => ?_)) hm
  subst e
  cases r3
  refine wpAny_truthy_bool ?_
  cases k with
  | false => exact ite_ff ⟨.bl false, H3, I3, rfl, q3⟩
  | true => exact ite_tt (chain_last (thn (hc pins s3 σ H3 _ I3 q3) fun w' s4 ⟨z', H4, I4, r4, q4⟩ => ho' pins s4 σ H4 y z' u w' Q I4 r2 r4 q4))
theorem pt_chain {op op' : CmpOp} {r r' : R2} (ho : OpR X (compareOp op) r) (ho' : OpR X (compareOp op') r') (ha : PE X a ta) (hb : PE X b tb) (hc : PE X c tc)
    (hm : lastMarks [op, op'] [b, c] = false := by with_unfolding_all rfl) : PT X (.Compare a [op, op'] [b, c] pos) (tTest (tChain r r' ta tb tc)) := by
  intro pins s σ H Q I h
  refine isTrue_chain (thn (ha pins s σ H _ I h) fun v s1 ⟨x, H1, I1, r1, q1⟩ => test_link (thn (hb pins s1 σ H1 _ I1 q1) fun u s2 ⟨y, H2, I2, r2, q2⟩ =>
    thn (ho pins s2 σ H2 x y v u _ I2 r1 r2 q2) fun d s3 ⟨z, H3, I3, r3, k, e, q3⟩ => ?_)) hm
  subst e
  cases r3
  refine wpAny_truthy_bool ?_
  cases k with
  | false =>
    obtain ⟨k', e', q'⟩ := q3
    cases e'
    exact ite_ff ⟨H3, I3, q'⟩
  | true =>
    refine ite_tt (test_last (thn (hc pins s3 σ H3 _ I3 q3) fun w' s4 ⟨z', H4, I4, r4, q4⟩ => thn (ho' pins s4 σ H4 y z' u w' _ I4 r2 r4 q4) fun d' s5 ⟨z2, H5, I5, r5, k2, e2, q5⟩ => ?_))
    subst e2
    cases r5
    exact wpAny_truthy_bool ⟨H5, I5, q5⟩

/-! ### truth -/
/-- a value's truth by the abstract heap -/
def TruV (K : PySem.W.Frag) (x : V) (H : Hp) (k : Bool) : Prop :=
  match x with
  | .non => k = false
  | .bl b => k = b
  | .int i => k = (i != 0)
  | .str y => y.length ≤ sizeLine ∧ k = ((y.length : Int) != 0)
  | .byt y => y.size ≤ sizeLine ∧ k = ((y.size : Int) != 0)
  | .ref p => (∃ xs, SqL K H p xs ∧ k = !xs.isEmpty) ∨ (∃ xs, SqT K H p xs ∧ k = !xs.isEmpty) ∨ ∃ kvs, H p = some (.dK kvs) ∧ k = !kvs.isEmpty
  | _ => False
theorem isEmpty_kv {κ : Type} {kvs : List (κ × V)} {vs : List (κ × Value)} (r : KV kvs vs) : (!vs.isEmpty) = !kvs.isEmpty := by
  cases r <;> rfl
theorem isEmpty_of {xs : List V} {its : List Value} (r : Vals xs its) : (!its.toArray.isEmpty) = !xs.isEmpty := by
  cases r <;> simp
theorem line63 : (sizeLine : Nat) < 2 ^ 63 := by rw [sizeLine_eq]; decide
theorem tru_ok : TruR X (fun x H Q => ∃ k, TruV X.K x H k ∧ Q k H) := by
  intro pins s σ H x v Q I rx h
  obtain ⟨k, e, q⟩ := h
  have hl := line63
  have hs : sizeLine = 16777216 := sizeLine_eq
  cases x with
  | non =>
    cases rx
    have e' : k = false := e
    subst e'
    exact truthy_none ⟨H, I, q⟩
  | bl b =>
    cases rx
    have e' : k = b := e
    subst e'
    exact wpAny_truthy_bool ⟨H, I, q⟩
  | int i =>
    obtain ⟨t, rfl⟩ := rx
    have e' : k = (i != 0) := e
    subst e'
    exact PySem.P.truthy_int ⟨H, I, q⟩
  | str y =>
    obtain ⟨t, rfl⟩ := rx
    obtain ⟨hy, e'⟩ : y.length ≤ sizeLine ∧ k = ((y.length : Int) != 0) := e
    subst e'
    exact PySem.P.truthy_str (by omega) ⟨H, I.tok _, q⟩
  | byt y =>
    obtain ⟨t, rfl⟩ := rx
    obtain ⟨hy, e'⟩ : y.size ≤ sizeLine ∧ k = ((y.size : Int) != 0) := e
    subst e'
    exact PySem.W.truthy_bytes (by omega) ⟨H, I.tok _, q⟩
  | ref p =>
    cases rx
    have e' : (∃ xs, SqL X.K H p xs ∧ k = !xs.isEmpty) ∨ (∃ xs, SqT X.K H p xs ∧ k = !xs.isEmpty) ∨ ∃ kvs, H p = some (.dK kvs) ∧ k = !kvs.isEmpty := e
    rcases e' with ⟨xs, hx, e'⟩ | ⟨xs, hx, e'⟩ | ⟨kvs, hx, e'⟩
    · subst e'
      obtain ⟨its, r, pl, hz⟩ := I.list hx
      have hlen := r.length
      exact wpAny_truthy_list pl.isList (by simp only [List.size_toArray]; omega) ⟨H, I.tok _, by rw [isEmpty_of r]; exact q⟩
    · subst e'
      obtain ⟨its, r, pl, hz⟩ := I.tuple hx
      have hlen := r.length
      exact truthy_tuple pl (by simp only [List.size_toArray]; omega) ⟨H, I.tok _, by rw [isEmpty_of r]; exact q⟩
    · subst e'
      obtain ⟨hz, hS, vs, r, m⟩ : kvs.length ≤ sizeLine ∧ (p == sysModules) = false ∧ ∃ vs, KV kvs vs ∧ s.heap.DictOf (mixKind X.prog X.w) p vs := I.hok p _ hx
      have hlen : kvs.length = vs.length := Paired.length r
      exact wpAny_truthy_dict hS m (by omega) ⟨H, I.tok _, by rw [isEmpty_kv r]; exact q⟩
  | _ => exact (show False from e).elim
/-- any expression whose test is its value's truth (a name, a call, a subscript, a field ..: he by fun _ => rfl) -/
theorem pt_truth (ha : PE X a ta) (he : ∀ whole, isTrue a X.env whole = (do let v ← whole; standAt a.pos; holding [v] (truthy v))) :
    PT X a (fun σ H Q => ta σ H fun x H' => ∃ k, TruV X.K x H' k ∧ Q k H') := by
  intro pins s σ H Q I h
  exact isTrue_plain (thn (ha pins s σ H _ I h) fun v s1 ⟨x, H1, I1, r1, q1⟩ => tru_ok pins s1 σ H1 x v Q I1 r1 q1) (he _)

/-! ### strs and bytes -/
def PlainIxT (b : Expr) : Prop := ∀ o i, subscripted b false o i = operate [o, i] (getItem o i)
/-! ### scalar builtins, by CallR -/
theorem vals1 {x : V} {us : List Value} (r : Vals [x] us) : ∃ u, us = [u] ∧ RelV x u := by
  cases r with
  | cons r1 r2 => cases r2; exact ⟨_, rfl, r1⟩
theorem vals2 {x y : V} {us : List Value} (r : Vals [x, y] us) : ∃ u w', us = [u, w'] ∧ RelV x u ∧ RelV y w' := by
  cases r with
  | cons r1 r2 =>
    cases r2 with
    | cons r3 r4 => cases r4; exact ⟨_, _, rfl, r1, r3⟩
theorem call_abs : CallR X (.builtin "abs") (fun xs H Q => ∃ i, xs = [.int i] ∧ Q (.int (if i < 0 then -i else i)) H) := by
  intro pins s σ H xs us Q I r h
  obtain ⟨i, rfl, q⟩ := h
  obtain ⟨u, rfl, t, rfl⟩ := vals1 r
  exact call_abs_int fun u tk => ⟨.int (if i < 0 then -i else i), H, I.tok _, ⟨_, rfl⟩, q⟩
theorem call_min2 (hc : X.calm = true) : CallR X (.builtin "min") (fun xs H Q => ∃ i j, xs = [.int i, .int j] ∧ Q (.int (if j < i then j else i)) H) := by
  intro pins s σ H xs us Q I r h
  obtain ⟨i, j, rfl, q⟩ := h
  obtain ⟨u, w', rfl, ⟨t, rfl⟩, ⟨t', rfl⟩⟩ := vals2 r
  refine min_two_ints (I.ok.hd hc) fun h' tk k => ⟨_, H, I.kept k, ?_, q⟩
  by_cases hj : j < i
  · rw [if_pos hj, if_pos hj]; exact ⟨_, rfl⟩
  · rw [if_neg hj, if_neg hj]; exact ⟨_, rfl⟩
theorem call_int1 : CallR X (.type "int") (fun xs H Q => (∃ i, xs = [.int i] ∧ Q (.int i) H) ∨ ∃ k, xs = [.bl k] ∧ Q (.int (if k then 1 else 0)) H) := by
  intro pins s σ H xs us Q I r h
  rcases h with ⟨i, rfl, q⟩ | ⟨k, rfl, q⟩
  · obtain ⟨u, rfl, t, rfl⟩ := vals1 r
    exact call_int_int ⟨.int i, H, I, ⟨_, rfl⟩, q⟩
  · obtain ⟨u, rfl, r1⟩ := vals1 r
    cases r1
    exact call_int_bool ⟨.int (if k then 1 else 0), H, I.tok _, ⟨_, rfl⟩, q⟩
/-- len of a str, a bytes, a list, a tuple -/
def LenV (K : PySem.W.Frag) (x : V) (H : Hp) (n : Nat) : Prop :=
  match x with
  | .str y => y.length ≤ sizeLine ∧ n = y.length
  | .byt y => y.size ≤ sizeLine ∧ n = y.size
  | .ref p => (∃ xs, SqL K H p xs ∧ n = xs.length) ∨ ∃ xs, SqT K H p xs ∧ n = xs.length
  | _ => False
theorem call_len : CallR X (.builtin "len") (fun xs H Q => ∃ x n, xs = [x] ∧ LenV X.K x H n ∧ Q (.int n) H) := by
  intro pins s σ H xs us Q I r h
  obtain ⟨x, n, rfl, e, q⟩ := h
  obtain ⟨u, rfl, rx⟩ := vals1 r
  have hl := line63
  have hs : sizeLine = 16777216 := sizeLine_eq
  cases x with
  | str y =>
    obtain ⟨t, rfl⟩ := rx
    obtain ⟨hy, e'⟩ : y.length ≤ sizeLine ∧ n = y.length := e
    subst e'
    exact len_str (by omega) ⟨.int _, H, I.tok _, ⟨_, rfl⟩, q⟩
  | byt y =>
    obtain ⟨t, rfl⟩ := rx
    obtain ⟨hy, e'⟩ : y.size ≤ sizeLine ∧ n = y.size := e
    subst e'
    exact PySem.W.len_bytes (by omega) ⟨.int _, H, I.tok _, ⟨_, rfl⟩, q⟩
  | ref p =>
    cases rx
    have e' : (∃ xs, SqL X.K H p xs ∧ n = xs.length) ∨ ∃ xs, SqT X.K H p xs ∧ n = xs.length := e
    rcases e' with ⟨xs, hx, e'⟩ | ⟨xs, hx, e'⟩
    · subst e'
      obtain ⟨its, r', pl, hz⟩ := I.list hx
      have hlen := r'.length
      exact Calls.call_len_list pl.isList (by simp only [List.size_toArray]; omega) ⟨.int xs.length, H, I.tok _, ⟨_, by simp only [List.size_toArray]; rw [hlen]⟩, q⟩
    · subst e'
      obtain ⟨its, r', pl, hz⟩ := I.tuple hx
      have hlen := r'.length
      exact len_tuple pl (by simp only [List.size_toArray]; omega) ⟨.int xs.length, H, I.tok _, ⟨_, by simp only [List.size_toArray]; rw [hlen]⟩, q⟩
  | _ => exact (show False from e).elim
end
end L2

namespace L2
open PySem PySem.Spec PyProof.Rows

/-! ### an instance, its attributes a map -/
structure ObjM (h : Heap) (x dx C : Addr) (mA : Str → Option Value) : Prop where
  obj : h.get? x = some (PySem.W.instObj C dx)
  ns : h.Ns1 dx mA
  ne : dx ≠ x

section
variable {prog : Program} {w : World} {A : Around} {E : Value → Shared → Prop} {s : Shared} {K : PySem.W.Frag} {x dx C f : Addr} {mA : Str → Option Value} {name : Str} {v : Value}

end

/-! ### the attributes as a list of pairs -/
def putF (f : Str) (v : V) : List (Str × V) → List (Str × V)
  | [] => [(f, v)]
  | (g, x) :: r => if g = f then (g, v) :: r else (g, x) :: putF f v r
section
variable {P : Program} {w : World} {H H' : Hp} {h h' : Heap} {a C dx : Addr} {fs fs' : List (Str × V)}
end

/-! ### what of the text a class must have -/
structure Cls (K : PySem.W.Frag) (C : Addr) : Prop where
  pg : PySem.W.plainGet K C Str.empty = true
  hd : PySem.W.hasDictIn K C = true
  po : PySem.W.plainOver K C = true
  sa : PySem.W.findIn K (.ref C) "__setattr__" = some (some (.builtin "object.__setattr__"))
/-- no class of it has the name -/
def NoAttr (K : PySem.W.Frag) (C : Addr) (f : Str) : Prop := PySem.W.findIn K (.ref C) f = some none
/-- a constant of the class -/
structure Con (K : PySem.W.Frag) (C : Addr) (f : Str) (v : V) (u : Value) : Prop where
  at_ : PySem.W.findIn K (.ref C) f = some (some u)
  rel : RelV v u
  get : PySem.W.specialIn K u "__get__" = some none
  cp : PySem.W.copiedNames.contains f = false
/-- a method: a plain def of the class or of one above it -/
structure Meth (K : PySem.W.Frag) (C : Addr) (m : Str) (f : Addr) : Prop where
  at_ : PySem.W.findIn K (.ref C) m = some (some (.ref f))
  fn : PySem.W.isFn K (.ref f) = true
  kp : PySem.W.keepIn K (.ref f) = true

section
variable {X : Cx} {pins : List (Addr × Obj)} {σ : St} {H : Hp} {s : Shared} {a C dx : Addr} {fs : List (Str × V)} {f : Str} {v : V} {A : Around} {E : Value → Shared → Prop}

end

/-! ### readings and rules -/
/-- e.f, an attribute of the instance -/
def tFld (K : PySem.W.Frag) (ta : TE) (f : Str) : TE := fun σ H Q => ta σ H fun x H1 => ∃ a C dx fs v, x = .ref a ∧ H1 a = some (.ins C dx fs) ∧ Cls K C ∧ NoAttr K C f ∧ fs.lookup f = some v ∧ Q v H1
/-- e.f, a constant of the class -/
def tCon (K : PySem.W.Frag) (ta : TE) (f : Str) : TE := fun σ H Q => ta σ H fun x H1 => ∃ a C dx fs v u, x = .ref a ∧ H1 a = some (.ins C dx fs) ∧ Cls K C ∧ Con K C f v u ∧ fs.lookup f = none ∧ Q v H1
/-- e.f = value -/
def sFld (K : PySem.W.Frag) (ta tv : TE) (f : Str) : TS := fun D σ H => tv σ H fun y H1 => ta σ H1 fun x H2 => ∃ a C dx fs, x = .ref a ∧ H2 a = some (.ins C dx fs) ∧ Cls K C ∧ NoAttr K C f ∧ fs.length < 1000 ∧
  D.nx σ (upd H2 a (.ins C dx (putF f y fs)))
/-- an augmented operator on two values -/
def InOp (X : Cx) (op : Operator) (rd : V → V → Hp → VK → Prop) : Prop :=
  ∀ (pins : List (Addr × Obj)) (s : Shared) (σ : St) (H : Hp) (x y : V) (u v : Value) (Q : VK), Inv X pins σ H s → RelV x u → RelV y v → rd x y H Q → wpAny (model X.prog X.w) X.A (inplaceOp op u v) (EP X pins σ Q) X.xe s
/-- e.f op= value -/
def sFldAug (K : PySem.W.Frag) (ta tv : TE) (rd : V → V → Hp → VK → Prop) (f : Str) : TS := fun D σ H => ta σ H fun x H1 => ∃ a C dx fs v, x = .ref a ∧ H1 a = some (.ins C dx fs) ∧ Cls K C ∧ NoAttr K C f ∧ fs.lookup f = some v ∧
  tv σ H1 fun y H2 => rd v y H2 fun z H3 => ∃ dx' fs', H3 a = some (.ins C dx' fs') ∧ fs'.length < 1000 ∧ D.nx σ (upd H3 a (.ins C dx' (putF f z fs')))

section
variable {X : Cx} {o e value : Expr} {f : Str} {pos pos' tpos : Pos} {ta tv : TE}
def rAdd : V → V → Hp → VK → Prop := fun x y H Q => ∃ i j, x = .int i ∧ y = .int j ∧ Q (.int (i + j)) H
def rSub : V → V → Hp → VK → Prop := fun x y H Q => ∃ i j, x = .int i ∧ y = .int j ∧ Q (.int (i - j)) H
end

/-! ### isinstance -/
section
variable {X : Cx} {pins : List (Addr × Obj)} {σ : St} {H : Hp} {s : Shared} {A : Around} {E : Value → Shared → Prop} {Q : Value → Shared → Prop} {c : Value} {b : Bool}
/-- the type of a value, as the fragment's deciders take it; for an instance its class -/
inductive TyOf (K : PySem.W.Frag) (H : Hp) : V → Value → Prop where
  | non : TyOf K H .non (.type "NoneType")
  | bl (x : Bool) : TyOf K H (.bl x) (.type "bool")
  | int (i : Int) : TyOf K H (.int i) (.type "int")
  | str (x : Str) : TyOf K H (.str x) (.type "str")
  | flt (x : UInt64) : TyOf K H (.flt x) (.type "float")
  | lst {a : Addr} {xs : List V} (e : H a = some (.lst xs)) : TyOf K H (.ref a) (.type "list")
  | frz {a : Addr} {o : Obj} {xs : List V} (e : H a = some (.frz o (.lst xs))) : TyOf K H (.ref a) (.type "list")
  | tup {a : Addr} {xs : List V} (e : H a = some (.tup xs)) : TyOf K H (.ref a) (.type "tuple")
  | dK {a : Addr} {kvs : List (Key × V)} (e : H a = some (.dK kvs)) : TyOf K H (.ref a) (.type "dict")
  | dT {a : Addr} {kvs : List (List Key × V)} (e : H a = some (.dT kvs)) : TyOf K H (.ref a) (.type "dict")
  | ins {a C dx : Addr} {fs : List (Str × V)} (e : H a = some (.ins C dx fs)) (cl : Cls K C) (ha : PySem.W.findIn K (.ref C) "__class__" = some (some (.builtin "object.__class__")))
      (hn : PySem.W.specialIn K (.builtin "object.__class__") "__get__" = some (some (.builtin "getset_descriptor.__get__"))) (htk : PySem.W.takesIn K (.builtin "object.__class__") = some true)
      (hm : PySem.W.mroIn K C (.type "object") = some true) : TyOf K H (.ref a) (.ref C)
end
end L2

namespace L2
open PySem PySem.Spec PyProof.Rows

/-! ### room -/
structure Room (k : Nat) (A : Around) : Prop where
  hd : A.handled = none
  dp : A.depth + 3 * k + 5 < recursionLimit
  un : A.units + 16 * k + 200 < cLine
theorem Room.mono {j k : Nat} {A : Around} (r : Room k A) (h : j ≤ k) : Room j A := ⟨r.hd, by have := r.dp; omega, by have := r.un; omega⟩
theorem Room.deeper {k : Nat} {A : Around} (r : Room (k + 1) A) (env : Env) : Room k (A.deeper env) :=
  ⟨r.hd, by have := r.dp; show A.depth + 1 + 3 * k + 5 < _; omega, by have := r.un; show A.units + 3 + 16 * k + 200 < _; omega⟩
theorem Room.depth {k : Nat} {A : Around} (r : Room k A) : A.depth < recursionLimit := by have := r.dp; omega
theorem Room.units {k : Nat} {A : Around} (r : Room k A) : A.units + 64 < cLine := by have := r.un; omega
/-! ### argument lists and displays -/
def tNil : TA := fun _ H Q => Q [] H
def tCons (ta : TE) (tr : TA) : TA := fun σ H Q => ta σ H fun x H1 => tr σ H1 fun xs H2 => Q (x :: xs) H2
section
variable {X : Cx} {e : Expr} {es : List Expr} {te : TE} {t : TA} {pos : Pos}
theorem pa_nil : PA X [] tNil := fun _ _ _ _ H Q I h => Calls.spliced_nil ⟨[], H, I, .nil, h⟩
theorem pa_cons (ha : PE X e te) (hr : PA X es t) (hs : starEach (e :: es) X.env = (false, eval e X.env) :: starEach es X.env := by rfl) : PA X (e :: es) (tCons te t) := by
  intro pos pins s σ H Q I h
  rw [hs]
  show wpAny _ _ (spliced ((false, eval e X.env) :: backTo pos (starEach es X.env))) _ _ s
  refine Calls.spliced_cons (thn (ha pins s σ H _ I h) fun u s1 ⟨x, H1, I1, r1, q1⟩ => ?_)
  exact thn (hr pos pins s1 σ H1 _ I1 q1) fun us s2 ⟨xs, H2, I2, r2, q2⟩ => ⟨x :: xs, H2, I2, .cons r1 r2, q2⟩

/-- a tuple, a list of written items -/
def tTup (t : TA) : TE := fun σ H Q => t σ H fun xs H1 => xs.length ≤ sizeLine ∧ ∀ p, H1 p = none → Q (.ref p) (upd H1 p (.tup xs))
def tLst (t : TA) : TE := fun σ H Q => t σ H fun xs H1 => xs.length ≤ sizeLine ∧ ∀ p, H1 p = none → Q (.ref p) (upd H1 p (.lst xs))
theorem pe_tup {x1} (h : PA X es t) : PE X (.Tuple es x1 pos) (tTup t) := by
  intro pins s σ H Q I hq
  refine wpAny_Tuple_spliced (thn (h pos pins s σ H _ I hq) fun us s1 ⟨xs, H1, I1, r, z, q⟩ => ⟨by rw [← r.length]; exact z, ?_⟩)
  have hf : H1 s1.heap.objs.size = none := I1.hok.fresh (Nat.le_refl _)
  refine ⟨.ref s1.heap.objs.size, upd H1 s1.heap.objs.size (.tup xs), I1.laid (t' := s1.toks) (fun b u e => Heap.get?_push_of_some _ e) (Nat.le_refl _) ?_, rfl, q _ hf⟩
  exact ⟨z, us, r, ⟨_, Heap.get?_push_size _ rfl, rfl, _, rfl⟩⟩
theorem pe_lst (h : PA X es t) : PE X (.List es pos) (tLst t) := by
  intro pins s σ H Q I hq
  refine wpAny_List_spliced (thn (h pos pins s σ H _ I hq) fun us s1 ⟨xs, H1, I1, r, z, q⟩ => ⟨by rw [← r.length]; exact z, ?_⟩)
  have hf : H1 s1.heap.objs.size = none := I1.hok.fresh (Nat.le_refl _)
  refine ⟨.ref s1.heap.objs.size, upd H1 s1.heap.objs.size (.lst xs), I1.laid (t' := s1.toks) (fun b u e => Heap.get?_push_of_some _ e) (Nat.le_refl _) ?_, rfl, q _ hf⟩
  exact ⟨z, us, 0, r, Heap.get?_push_size _ rfl⟩
end

/-! ### what a def promises -/
/-- a def's promise: the bound arguments in the parameters' order, the heap, the wanted end, the wanted exception -/
abbrev Sp := List V → Hp → VK → XK → Prop
/-- how an exception lies behind a call (file 08 gives it): the callers' frames, abstract heap and state ahead of the call, the wish, the exception, the state -/
abbrev CXT := List Env → Hp → Shared → XK → Value → Shared → Prop

/-- the state at a call -/
structure Env0 (P : Program) (w : World) (K : PySem.W.Frag) (mg : Str → Option Value) (base : Heap) (A : Around) (outer : List Env) (s : Shared) (H : Hp) : Prop where
  frames : A.frames = some outer
  mod : Mod K mg base
  bs : ∀ b o, base.get? b = some o → s.heap.get? b = some o ∧ H b = none
  bsz : base.objs.size ≤ s.heap.objs.size
  funs : s.heap.FunFrames base outer
  frf : ∀ b ∈ frs outer, H b = none
  hok : HOk P w H s.heap
  bare : AllBare s.gens
/-- a call's end -/
def CE (outer : List Env) (P : Program) (w : World) (H : Hp) (s : Shared) (Q : VK) (u : Value) (s' : Shared) : Prop :=
  ∃ v H', s'.os = s.os ∧ AllBare s'.gens ∧ Un (frs outer) [] H H' s.heap s'.heap ∧ HOk P w H' s'.heap ∧ RelV v u ∧ Q v H'
def CR (CX : CXT) (outer : List Env) (P : Program) (w : World) (H : Hp) (s : Shared) (Q : VK) (E : XK) (r : Result) (s' : Shared) : Prop :=
  match r with
  | .ok (.ret u) => CE outer P w H s Q u s'
  | .ok _ => False
  | .error e => CX outer H s E e s'
structure FnOk (P : Program) (w : World) (K : PySem.W.Frag) (mg : Str → Option Value) (base : Heap) (CX : CXT) (k : Nat) (f : Addr) (fd : FuncData) (ps : List Str) (sp : Sp) : Prop where
  len : ∀ vs H Q E, sp vs H Q E → vs.length = ps.length
  run : ∀ (A : Around) (outer : List Env) (s : Shared) (H : Hp) (args : Args) (us : List Value) (vs : List V) (Q : VK) (E : XK), Room k A → Env0 P w K mg base A outer s H → BindsTo s fd args (ps.zip us) → Vals vs us → sp vs H Q E →
    codeAny (model P w) A (.call (.ref f) args) (CR CX outer P w H s Q E) s
section
variable {X : Cx} {pins : List (Addr × Obj)} {σ : St} {H : Hp} {s s' : Shared}
/-- from a body: what a callee wants -/
theorem Inv.env0 (I : Inv X pins σ H s) : Env0 X.prog X.w X.K X.mg X.base X.A X.stack s H :=
  ⟨I.ok.frames, I.ok.mod, I.bs, Nat.le_trans I.ok.bsz I.sz, I.stack, I.stkFree, I.hok, I.bare⟩
/-- behind a call -/
theorem Inv.after {Q : VK} {u : Value} (I : Inv X pins σ H s) (h : CE X.stack X.prog X.w H s Q u s') : EP X pins σ Q u s' := by
  obtain ⟨v, H', os, bare, un, hok, r, q⟩ := h
  obtain ⟨hh, g, d, t, os'⟩ := s'
  obtain rfl : os' = s.os := os
  exact ⟨v, H', I.call (h' := hh) (g' := g) (d' := d) (t' := t) (ch := []) un hok bare (fun b z => absurd z (by simp)), r, q⟩
end

/-! ### calls -/
/-- f(..): the written arguments, then the defaults dvs; E: what is wanted of an exception -/
def tCall (sp : Sp) (dvs : List V) (E : XK) (t : TA) : TE := fun σ H Q => t σ H fun vs H1 => sp (vs ++ dvs) H1 Q E
/-- o.m(..) of an instance of the class at C -/
def tMeth (C : Addr) (m : Str) (sp : Sp) (dvs : List V) (E : XK) (ta : TE) (t : TA) : TE := fun σ H Q => ta σ H fun x H1 => ∃ a dx fs, x = .ref a ∧ H1 a = some (.ins C dx fs) ∧ fs.lookup m = none ∧
  t σ H1 fun vs H2 => sp (x :: (vs ++ dvs)) H2 Q E
/-- C(..): a new instance and its dict, then __init__ -/
def tMake (C : Addr) (sp : Sp) (dvs : List V) (E : XK) (t : TA) : TE := fun σ H Q => t σ H fun vs H1 => ∀ x dx, H1 x = none → H1 dx = none → dx ≠ x →
  sp (.ref x :: (vs ++ dvs)) (upd (upd H1 dx (.own x)) x (.ins C dx [])) (fun v H2 => v = .non ∧ Q (.ref x) H2) E

/-- how the parameters are bound: us the positional arguments, kw the keywords' values by name, ds the defaults that fill up -/
def Binds (K : PySem.W.Frag) (fd : FuncData) (ps : List Str) (ds : List Value) : Prop :=
  ∀ (s : Shared) (us : List Value), K.In s.heap → (us ++ ds).length = ps.length → BindsTo s fd ⟨us, []⟩ (ps.zip (us ++ ds))
/-- every parameter is given -/
theorem Binds.all {K : PySem.W.Frag} {fd : FuncData} {ps : List Str} (h : ∀ us : List Value, us.length = ps.length → bindArgs fd ⟨us, []⟩ = pure (ps.zip us)) : Binds K fd ps [] := fun s us _ hl => by
  rw [List.append_nil] at hl ⊢
  exact .of_eq (h us hl)

/-- an exception of a callee reaches what this body wants of exceptions -/
def Passes (CX : CXT) (X : Cx) (E : XK) : Prop := ∀ (pins : List (Addr × Obj)) (σ : St) (H : Hp) (s : Shared) (e : Value) (s' : Shared), Inv X pins σ H s → CX X.stack H s E e s' → X.xe e s'

section
variable {X : Cx} {CX : CXT} {k : Nat} {f C : Addr} {fd : FuncData} {ps : List Str} {sp : Sp} {dvs : List V} {ds : List Value} {E : XK} {x m : Str} {p pos apos : Pos} {e o : Expr} {es : List Expr} {ta : TE} {t : TA}

/-- the callee runs -/
theorem run_fn {pins : List (Addr × Obj)} {σ : St} {H : Hp} {s : Shared} {Q : VK} {us : List Value} {vs : List V} (F : FnOk X.prog X.w X.K X.mg X.base CX k f fd ps sp) (hr : Room k X.A) (hb : Binds X.K fd ps ds) (hd : Vals dvs ds) (hx : Passes CX X E)
    (I : Inv X pins σ H s) (r : Vals vs us) (h : sp (vs ++ dvs) H Q E) : wpAny (model X.prog X.w) X.A (call (.ref f) us) (EP X pins σ Q) X.xe s := by
  have r2 : Vals (vs ++ dvs) (us ++ ds) := r.append hd
  have hl : (us ++ ds).length = ps.length := by rw [← r2.length]; exact F.len _ _ _ _ h
  refine wpAny_call (codeAny_mono (F.run X.A X.stack s H ⟨us, []⟩ (us ++ ds) (vs ++ dvs) Q E hr I.env0 (hb s us I.kIn hl) r2 h) fun r s' hq => ?_)
  cases r with
  | error e => exact hx pins σ H s e s' I hq
  | ok fl =>
    cases fl with
    | ret u => exact I.after hq
    | next => exact False.elim hq
    | brk => exact False.elim hq
    | cont => exact False.elim hq

theorem pe_call (F : FnOk X.prog X.w X.K X.mg X.base CX k f fd ps sp) (hr : Room k X.A) (hg : Gl X x) (hm : X.mg x = some (.ref f)) (hk : PySem.W.keepIn X.K (.ref f) = true) (hb : Binds X.K fd ps ds) (hd : Vals dvs ds) (hx : Passes CX X E)
    (ha : PA X (e :: es) t) (hdb : (x == ("__debug__" : Str)) = false := by decide) (he : starEach (e :: es) X.env = (false, eval e X.env) :: starEach es X.env := by rfl) (hpl : (backTo pos (starEach es X.env)).any (·.1) = false := by rfl) :
    PE X (.Call (.Name x p) (e :: es) [] pos) (tCall sp dvs E t) := by
  intro pins s σ H Q I h
  refine wpAny_Call_Name_kw (ld_glob I hg hm ?_ hdb)
  refine PySem.W.callWith_K (h₀ := X.base) I.ok.mod.kin hk (thn (ha pos pins s σ H _ I h) fun us s1 ⟨vs, H1, I1, r, q⟩ => ⟨I1.kIn, ?_⟩) he hpl
  exact run_fn F hr hb hd hx I1 r q
/-- what a class must have to be made -/
structure Mk (K : PySem.W.Frag) (C f : Addr) : Prop where
  makes : PySem.W.makesIn K C = true
  init : PySem.W.findIn K (.ref C) "__init__" = some (some (.ref f))
  fn : PySem.W.isFn K (.ref f) = true
  kp : PySem.W.keepIn K (.ref C) = true

end

/-! ### keywords -/
/-- the values of the keywords, from the left -/
def PK (X : Cx) (kws : List Keyword) (t : TA) : Prop :=
  ∀ (pos : Pos) (pins : List (Addr × Obj)) (s : Shared) (σ : St) (H : Hp) (Q : List V → Hp → Prop), Inv X pins σ H s → t σ H Q → wpAny (model X.prog X.w) X.A (evalAll ((backToKw pos (keywordEach kws X.env)).map (·.2))) (AP X pins σ Q) X.xe s
section
variable {X : Cx} {CX : CXT} {k : Nat} {f C : Addr} {fd : FuncData} {ps ks : List Str} {sp : Sp} {E : XK} {x m : Str} {p pos apos kpos : Pos} {e o : Expr} {es : List Expr} {kws : List Keyword} {te ta : TE} {t tk : TA} {nm : Option Str}
/-- how a call with keywords binds: g puts the positional values us and the keywords' values ws (names ks) in the parameters' order, defaults among them -/
structure KBinds (K : PySem.W.Frag) (fd : FuncData) (ps ks : List Str) (g : List Value → List Value → List Value) (gV : List V → List V → List V) : Prop where
  to : ∀ (s : Shared) (us ws : List Value), K.In s.heap → (g us ws).length = ps.length → BindsTo s fd ⟨us, ks.zip ws⟩ (ps.zip (g us ws))
  rel : ∀ {vs : List V} {us : List Value} {zs : List V} {ws : List Value}, Vals vs us → Vals zs ws → Vals (gV vs zs) (g us ws)
def tCallK (sp : Sp) (gV : List V → List V → List V) (E : XK) (t tk : TA) : TE := fun σ H Q => t σ H fun vs H1 => tk σ H1 fun zs H2 => sp (gV vs zs) H2 Q E
variable {g : List Value → List Value → List Value} {gV : List V → List V → List V}
end

/-! ### a def's body keeps its promise -/
/-- names: the parameters first -/
structure FnScope (N P : List Str) (sc : Scope) : Prop where
  kind : sc.kind = .function
  co : sc.isCoroutine = false
  gen : sc.isGenerator = false
  nd : N.Nodup
  pre : N.take P.length = P
  par : ∀ x ∈ P, sc.names.lookup x = some .local ∨ sc.names.lookup x = some .cell
  nofree : ∀ y ∈ sc.names, y.2 ≠ .free

theorem bindL_out {kindOf : Str → Option NameKind} {x : Str} : ∀ {binds : List (Str × Value)} {m : Str → Option Value}, (∀ v, (x, v) ∉ binds) → bindL kindOf binds m x = m x
  | [], _, _ => rfl
  | (n, v) :: r, m, h => by
    unfold bindL
    rw [bindL_out fun w hw => h w (List.mem_cons_of_mem _ hw)]
    split
    · have : x ≠ n := by rintro rfl; exact h v List.mem_cons_self
      simp [this]
    · rfl
theorem bindC_out {kindOf : Str → Option NameKind} {x : Str} : ∀ {binds : List (Str × Value)} {m : Str → Option Value}, (∀ v, (x, v) ∉ binds) → bindC kindOf binds m x = m x
  | [], _, _ => rfl
  | (n, v) :: r, m, h => by
    unfold bindC
    rw [bindC_out fun w hw => h w (List.mem_cons_of_mem _ hw)]
    split
    · rfl
    · have : x ≠ n := by rintro rfl; exact h v List.mem_cons_self
      simp [this]
theorem bindL_get {kindOf : Str → Option NameKind} {x : Str} {v : Value} : ∀ {P : List Str} {vs : List Value} {i : Nat} {m : Str → Option Value}, P.Nodup → P[i]? = some x → vs[i]? = some v → kindOf x = some .local →
    bindL kindOf (P.zip vs) m x = some v
  | [], _, _, _, _, h, _, _ => by simp at h
  | _ :: _, [], _, _, _, _, h, _ => by simp at h
  | p :: P, w :: vs, 0, m, nd, h1, h2, hk => by
    simp at h1 h2; subst h1; subst h2
    show bindL kindOf ((p, w) :: P.zip vs) m p = _
    unfold bindL
    rw [bindL_out fun v hv => (List.nodup_cons.mp nd).1 (List.of_mem_zip hv).1, if_pos hk]
    simp
  | p :: P, w :: vs, i + 1, m, nd, h1, h2, hk => by
    show bindL kindOf ((p, w) :: P.zip vs) m x = _
    unfold bindL
    exact bindL_get (i := i) (List.nodup_cons.mp nd).2 (by simpa using h1) (by simpa using h2) hk
theorem bindC_get {kindOf : Str → Option NameKind} {x : Str} {v : Value} : ∀ {P : List Str} {vs : List Value} {i : Nat} {m : Str → Option Value}, P.Nodup → P[i]? = some x → vs[i]? = some v → kindOf x ≠ some .local →
    bindC kindOf (P.zip vs) m x = some v
  | [], _, _, _, _, h, _, _ => by simp at h
  | _ :: _, [], _, _, _, _, h, _ => by simp at h
  | p :: P, w :: vs, 0, m, nd, h1, h2, hk => by
    simp at h1 h2; subst h1; subst h2
    show bindC kindOf ((p, w) :: P.zip vs) m p = _
    unfold bindC
    rw [bindC_out fun v hv => (List.nodup_cons.mp nd).1 (List.of_mem_zip hv).1, if_neg hk]
    simp
  | p :: P, w :: vs, i + 1, m, nd, h1, h2, hk => by
    show bindC kindOf ((p, w) :: P.zip vs) m x = _
    unfold bindC
    exact bindC_get (i := i) (List.nodup_cons.mp nd).2 (by simpa using h1) (by simpa using h2) hk

/-- the names' values at the entry -/
def start (N : List Str) (vs : List V) : St := vs.map some ++ List.replicate (N.length - vs.length) none

/-- the context of a def's body, at its entry; an exception leaves the frame, then lies as CX says -/
def cxOf (CX : CXT) (P : Program) (w : World) (K : PySem.W.Frag) (mg : Str → Option Value) (base : Heap) (N : List Str) (qual : Str) (scope : Scope) (f : Addr) (cd : Value) (A : Around) (outer : List Env) (s : Shared) (H : Hp) (E : XK) : Cx where
  prog := P
  w := w
  K := K
  mg := mg
  base := base
  A := A.deeper (envOfC qual scope s.heap.objs.size f cd)
  N := N
  s₀ := s
  H₀ := H
  env := envOfC qual scope s.heap.objs.size f cd
  outer := outer
  stack := envOfC qual scope s.heap.objs.size f cd :: outer
  ex := []
  calm := true
  fn := fun _ => true
  pn := []
  xe := fun e s' => wpAny (model P w) (A.deeper (envOfC qual scope s.heap.objs.size f cd)) (leaving (envOfC qual scope s.heap.objs.size f cd) e) (fun _ s'' => CX outer H s E e s'') (fun e' s'' => CX outer H s E e' s'') s'

theorem cell_has {sc : Scope} {n : Nat} {x : Str} (h : sc.names.lookup x = some .cell) : ∃ c, (cellsFrom n sc.names []).lookup x = some c := by
  have q := PySem.W.cellsFrom_some sc.names n [] (.inl h)
  exact Option.isSome_iff_exists.mp q

theorem inv_start {CX : CXT} {P : Program} {w : World} {K : PySem.W.Frag} {mg : Str → Option Value} {base : Heap} {N ps : List Str} {qual : Str} {scope : Scope} {f : Addr} {cd : Value} {A : Around} {outer : List Env} {s s1 : Shared} {H : Hp} {E : XK} {us : List Value} {vs : List V}
    (S : FnScope N ps scope) (hd : A.handled = none) (e0 : Env0 P w K mg base A outer s H) (hl : vs.length = ps.length) (r : Vals vs us)
    (x : InCallC s s.heap.objs.size (bindL (envOfC qual scope s.heap.objs.size f cd).kindOf (ps.zip us) fun _ => none) (cellsFrom (s.heap.objs.size + 1) scope.names []) (bindC (envOfC qual scope s.heap.objs.size f cd).kindOf (ps.zip us) fun _ => none) s1) :
    Inv (cxOf CX P w K mg base N qual scope f cd A outer s H E) [] (start N vs) H s1 := by
  have hpl : ps.length ≤ N.length := by have := congrArg List.length S.pre; rw [List.length_take] at this; omega
  obtain ⟨h1, tk, rfl, hk⟩ := x.done
  have noA : ∀ b : Addr, b ∉ (cxOf CX P w K mg base N qual scope f cd A outer s H E).ex := fun b z => absurd (show b ∈ ([] : List Addr) from z) (by simp)
  refine ⟨⟨e0.mod, S.kind, rfl, rfl, Nat.le_refl _, fun y z c h1 h2 => ?_, fun y hy => ?_, fun y c _ h => ?_, fun _ => hd, Around.frames_deeper e0.frames, .inr ⟨rfl, rfl⟩, fun b z => absurd z (noA b), e0.bs, e0.bsz, fun b _ _ => noA b, fun b z => absurd z (noA b), e0.funs, e0.frf⟩,
    rfl, e0.bare, Un.kept hk, ⟨_, x.toInCall.ns, fun i y v h1 h2 h3 => ?_⟩, fun y c h => ⟨_, x.cell y c h⟩, e0.hok.fresh (Nat.le_refl _), fun y c h => ?_, fun p hp => absurd (show p ∈ ([] : List (Addr × Obj)) from hp) (by simp), e0.hok.kept hk, ?_⟩
  · exact name_of_addr x.apart (PySem.mem_of_lookup h1) (PySem.mem_of_lookup h2)
  · have hy : scope.names.lookup y = some .cell ∨ scope.names.lookup y = some .free := hy
    rcases hy with hy | hy
    · exact cell_has hy
    · exact absurd rfl (S.nofree _ (PySem.mem_of_lookup hy))
  · exact Nat.le_of_lt (x.above y c (PySem.mem_of_lookup h))
  · have hi : i < vs.length := by
      unfold start at h2
      by_cases hi : i < vs.length
      · exact hi
      · rw [List.getElem?_append_right (by simpa using hi)] at h2
        rw [List.getElem?_replicate] at h2
        split at h2 <;> cases h2
    have ha : vs[i]? = some v := by
      unfold start at h2
      rw [List.getElem?_append_left (by simpa using hi), List.getElem?_map] at h2
      cases e : vs[i]? with
      | none => rw [e] at h2; cases h2
      | some a => rw [e] at h2; cases h2; rfl
    obtain ⟨u, hu, rv⟩ := r.get ha
    have hp : ps[i]? = some y := by
      rw [← S.pre, List.getElem?_take_of_lt (by omega)]; exact h1
    have ndP : ps.Nodup := by rw [← S.pre]; exact S.nd.sublist (List.take_sublist _ _)
    refine ⟨u, rv, ?_⟩
    rcases S.par y (List.mem_of_getElem? hp) with k | k
    · exact .inl ⟨k, bindL_get ndP hp hu k⟩
    · obtain ⟨c, e⟩ := cell_has (n := s.heap.objs.size + 1) k
      refine .inr ⟨.inl k, c, e, ?_⟩
      have q := x.cell y c e
      rw [bindC_get ndP hp hu (by show scope.names.lookup y ≠ _; rw [k]; decide)] at q
      exact q
  · exact e0.hok.fresh (Nat.le_of_lt (x.above y c (PySem.mem_of_lookup h)))
  · unfold start
    show _ = N.length
    rw [List.length_append, List.length_map, List.length_replicate]
    omega

/-- THE RULE: a def (or a method) of the text, by its body. The body's reading t is chosen for each entry; it is run at the parameters' values -/
theorem fn_of {CX : CXT} {P : Program} {w : World} {K : PySem.W.Frag} {mg : Str → Option Value} {base : Heap} {k : Nat} {f : Addr} {name qual : Str} {params : Arguments} {body : List Stmt} {scope : Scope} {dV kV doc pm cdv ct oc : Value} {an od : Option Addr}
    {osl : Array (Option Value)} {N ps : List Str} {sp : Sp} (lk : K.lookup f = some ⟨oc, od, .func (PySem.W.fnOf name qual params body scope dV kV doc pm an cdv ct), osl⟩) (hcd : PySem.W.codeIn K cdv qual = true) (S : FnScope N ps scope)
    (len : ∀ vs H Q E, sp vs H Q E → vs.length = ps.length)
    (hbody : ∀ (A : Around) (outer : List Env) (s : Shared) (H : Hp) (vs : List V) (Q : VK) (E : XK), Room k (A.deeper (envOfC qual scope s.heap.objs.size f cdv)) → sp vs H Q E →
      ∃ t, PSs (cxOf CX P w K mg base N qual scope f cdv A outer s H E) body t ∧ t { nx := fun _ H' => Q .non H', rt := Q } (start N vs) H) :
    FnOk P w K mg base CX (k + 1) f (PySem.W.fnOf name qual params body scope dV kV doc pm an cdv ct) ps sp := by
  refine ⟨len, fun A outer s H args us vs Q E hr e0 hb r hsp => ?_⟩
  have hl := len _ _ _ _ hsp
  have KX : K.In s.heap := e0.mod.kin.keeps fun b o e => (e0.bs b o e).1
  have lim : s.heap.NoLimit := e0.mod.nolimit.keeps fun b o e => (e0.bs b o e).1
  have hkind : ∀ y ∈ ps.zip us, scope.names.lookup y.1 = some .local ∨ (scope.names.lookup y.1 = some .cell ∧ ((cellsFrom (s.heap.objs.size + 1) scope.names []).lookup y.1).isSome = true) := fun ⟨n, v⟩ hy => by
    rcases S.par n (List.of_mem_zip hy).1 with q | q
    · exact .inl q
    · exact .inr ⟨q, PySem.W.cellsFrom_some _ _ _ (.inl q)⟩
  refine codeAny_call_function hr.depth (KX _ _ lk) rfl S.co S.gen rfl (PySem.W.codeRec_of KX hcd) (hb _ _ _ _ ?_)
  refine wpAny_newFunctionEnv_cells S.kind hkind fun env he s1 x => ?_
  subst he
  refine ⟨lim.keeps x.toInCall.keep, codeAny_func ?_⟩
  obtain ⟨t, ht, hq⟩ := hbody A outer s H vs Q E (hr.deeper _) hsp
  have I : Inv (cxOf CX P w K mg base N qual scope f cdv A outer s H E) [] (start N vs) H s1 := inv_start S hr.hd e0 hl r x
  refine wpAny_mono (ht [] s1 (start N vs) H _ I hq) (fun fl s' hs => ?_) fun e s' hs => hs
  have fin : ∀ {σ' : St} {H' : Hp} {v : V} {u : Value}, Inv (cxOf CX P w K mg base N qual scope f cdv A outer s H E) [] σ' H' s' → RelV v u → Q v H' → CE outer P w H s Q u s' :=
    fun {σ' H' v u} J rv q => ⟨v, H', J.os, J.bare, J.base, J.hok, rv, q⟩
  cases fl with
  | ret u =>
    obtain ⟨v, σ', H', J, rv, q⟩ := hs
    exact fin J rv q
  | next =>
    obtain ⟨σ', H', J, q⟩ := hs
    exact fin (v := V.non) (u := Value.none) J rfl q
  | brk =>
    obtain ⟨_, _, _, q⟩ := hs
    exact False.elim q
  | cont =>
    obtain ⟨_, _, _, q⟩ := hs
    exact False.elim q
end L2

namespace L2
open PySem PySem.Spec PyProof.Rows
section
variable {X : Cx} {x : Str} {p pos : Pos} {e : Expr} {es : List Expr} {t : TA} {id T : String} {r : List V → Hp → VK → Prop}

def tCB (r : List V → Hp → VK → Prop) (t : TA) : TE := fun σ H Q => t σ H fun vs H1 => r vs H1 Q
/-- f(e, ..), f a built-in function -/
theorem pe_callB (hc : CallR X (.builtin id) r) (hg : Gl X x) (hm : X.mg x = none) (hv : bootBuiltins x = some (.builtin id)) (ha : PA X (e :: es) t) (hn : x ≠ "__name__" := by decide) (hdb : (x == ("__debug__" : Str)) = false := by decide)
    (he : starEach (e :: es) X.env = (false, eval e X.env) :: starEach es X.env := by rfl) (hpl : (backTo pos (starEach es X.env)).any (·.1) = false := by rfl) : PE X (.Call (.Name x p) (e :: es) [] pos) (tCB r t) := by
  intro pins s σ H Q I h
  refine wpAny_Call_Name_kw (ld_blt I hg hm hv ?_ hn hdb)
  exact PyProof.Rows.callWith_builtin1 (thn (ha pos pins s σ H _ I h) fun us s1 ⟨vs, H1, I1, r1, q1⟩ => hc pins s1 σ H1 vs us Q I1 r1 q1) he hpl
/-- T(e, ..), T a built-in type -/
theorem pe_callTy (hc : CallR X (.type T) r) (hg : Gl X x) (hm : X.mg x = none) (hv : bootBuiltins x = some (.type T)) (ha : PA X (e :: es) t) (hn : x ≠ "__name__" := by decide) (hdb : (x == ("__debug__" : Str)) = false := by decide)
    (he : starEach (e :: es) X.env = (false, eval e X.env) :: starEach es X.env := by rfl) (hpl : (backTo pos (starEach es X.env)).any (·.1) = false := by rfl) : PE X (.Call (.Name x p) (e :: es) [] pos) (tCB r t) := by
  intro pins s σ H Q I h
  refine wpAny_Call_Name_kw (ld_blt I hg hm hv ?_ hn hdb)
  exact PyProof.Rows.callWith_type1 (thn (ha pos pins s σ H _ I h) fun us s1 ⟨vs, H1, I1, r1, q1⟩ => hc pins s1 σ H1 vs us Q I1 r1 q1) he hpl
end
end L2

namespace HT
open PySem PyProof.Rows

/-- t < u of tuples of ints -/
def lexLt : List Int → List Int → Bool
  | [], [] => false
  | [], _ :: _ => true
  | _ :: _, [] => false
  | x :: xs, y :: ys => if x = y then lexLt xs ys else decide (x < y)
section
open PySem.SeqAt
open PySem.AutoSeq1 (wpAny_loadPart')
open PySem.MeetsSeq PySem.MeetsSeq2 PySem.MeetsSeq3

end

section
variable {prog : Program} {w : World} {A : Around} {E : Value → Shared → Prop} {s : Shared}

/-! ### t[a:b], not the whole -/
/-- a slice's bound as a place among n (d where it is left out) -/
def sIx (n d : Nat) : Option Int → Nat
  | none => d
  | some v => if v < 0 then (v + (n : Int)).toNat else min v.toNat n
theorem sIx_none (n d : Nat) : sIx n d none = d := rfl
theorem sIx_nat (n d k : Nat) : sIx n d (some (k : Int)) = min k n := by
  show (if (k : Int) < 0 then ((k : Int) + (n : Int)).toNat else min (k : Int).toNat n) = min k n
  rw [if_neg (by omega), Int.toNat_natCast]
end
end HT

namespace L2
open PySem PySem.Spec PyProof.Rows

/-! ### the parts of a slice -/
abbrev TO := St → Hp → (Option Int → Hp → Prop) → Prop
/-- a slice's part (left out, or an int) -/
def PO (X : Cx) (e : Option Expr) (t : TO) : Prop :=
  ∀ (pins : List (Addr × Obj)) (s : Shared) (σ : St) (H : Hp) (Q : Option Int → Hp → Prop), Inv X pins σ H s → t σ H Q →
    wpAny (model X.prog X.w) X.A (evalPart e X.env) (fun u s' => ∃ o H', Inv X pins σ H' s' ∧ IsPart u o ∧ Q o H') X.xe s
def tNoPart : TO := fun _ H Q => Q none H
def tPart (t : TE) : TO := fun σ H Q => t σ H fun x H1 => ∃ i, x = .int i ∧ Q (some i) H1

theorem intsAre_of {ns : List Int} : ∀ {us : List Value}, Vals (ns.map V.int) us → IntsAre us ns := by
  induction ns with
  | nil => intro us r; rw [List.map_nil] at r; cases r; exact .nil
  | cons n ns ih =>
    intro us r
    rw [List.map_cons] at r
    cases r with
    | cons r1 r2 =>
      obtain ⟨t, e⟩ := r1
      subst e
      exact .cons n t (ih r2)

section
variable {X : Cx} {e : Expr} {te : TE} {lo hi : Option Expr} {tl th : TO} {pos p2 : Pos}

theorem po_none : PO X none tNoPart := by
  intro pins s σ H Q I h
  rw [evalPart_none]
  exact wpAny_pure ⟨none, H, I, .none, h⟩
theorem po_some (h : PE X e te) : PO X (some e) (tPart te) := by
  intro pins s σ H Q I hw
  rw [evalPart_some]
  refine thn (h pins s σ H _ I hw) fun u s1 ⟨x, H1, I1, r1, q1⟩ => ?_
  obtain ⟨i, rfl, q⟩ := q1
  obtain ⟨t, rfl⟩ := r1
  exact ⟨some i, H1, I1, .int i t, q⟩

/-- what a slice of a value is, by values: the slice object stands at sl -/
def SlR (X : Cx) (r : V → Option Int → Option Int → Hp → VK → Prop) : Prop :=
  ∀ (pins : List (Addr × Obj)) (s : Shared) (σ : St) (H : Hp) (x : V) (v vl vu : Value) (lo hi : Option Int) (sl : Addr) (Q : VK), Inv X pins σ H s → RelV x v → s.heap.IsSliceOf sl vl vu .none → IsPart vl lo → IsPart vu hi → r x lo hi H Q →
    ∃ T id, typeLookup (.type T) "__getitem__" = pure (some (.builtin id)) ∧ s.TypeIs v T ∧ wpAny (model X.prog X.w) X.A (getItem v (.ref sl)) (EP X pins σ Q) X.xe s
def tSl (r : V → Option Int → Option Int → Hp → VK → Prop) (te : TE) (tl th : TO) : TE := fun σ H Q => te σ H fun x H1 => tl σ H1 fun l H2 => th σ H2 fun u H3 => r x l u H3 Q
/-- a[lo:hi], any a -/
theorem pe_slice {r : V → Option Int → Option Int → Hp → VK → Prop} (hr : SlR X r) (he : PE X e te) (hl : PO X lo tl) (hu : PO X hi th) : PE X (.Subscript e (.Slice lo hi none p2) pos) (tSl r te tl th) := by
  intro pins s σ H Q I h
  refine Subscript_ (thn (he pins s σ H _ I h) fun v s1 ⟨x, H1, I1, r1, q1⟩ => ?_)
  refine wpAny_Slice (thn (hl pins s1 σ H1 _ I1 q1) fun vl s2 ⟨l, H2, I2, pl, q2⟩ => thn (hu pins s2 σ H2 _ I2 q2) fun vu s3 ⟨u, H3, I3, pu, q3⟩ => ?_)
  rw [evalPart_none]
  refine wpAny_pure ?_
  have I4 : Inv X pins σ H3 { s3 with heap := s3.heap.push { cls := .type "slice", data := .fields #[vl, vu, .none] } } := I3.kept (t' := s3.toks) fun b ob q => Heap.get?_push_of_some _ q
  obtain ⟨T, id, hT, ht, hg⟩ := hr pins { s3 with heap := s3.heap.push { cls := .type "slice", data := .fields #[vl, vu, .none] } } σ H3 x v vl vu l u s3.heap.objs.size Q I4 r1 (Heap.IsSliceOf.new ..) pl pu q3
  show wpAny (model X.prog X.w) X.A (subscriptTail e (.Slice lo hi none p2) v (.ref s3.heap.objs.size)) (EP X pins σ Q) X.xe { s3 with heap := s3.heap.push { cls := .type "slice", data := .fields #[vl, vu, .none] } }
  exact tail_any (ops := [.ref s3.heap.objs.size, v]) ht hT hg (by with_unfolding_all rfl)

/-- the items of xs[lo:hi] -/
def cutV (xs : List V) (lo hi : Option Int) : List V := (xs.drop (HT.sIx xs.length 0 lo)).take (HT.sIx xs.length xs.length hi - HT.sIx xs.length 0 lo)
theorem cutV_length (xs : List V) (lo hi : Option Int) : (cutV xs lo hi).length ≤ xs.length := by
  unfold cutV
  rw [List.length_take, List.length_drop]
  omega
/-- t[lo:hi], not the whole of it (the whole would be t itself) -/
def rSlT (K : PySem.W.Frag) : V → Option Int → Option Int → Hp → VK → Prop := fun x lo hi H Q => ∃ a xs, x = .ref a ∧ SqT K H a xs ∧
  ¬ (HT.sIx xs.length 0 lo = 0 ∧ HT.sIx xs.length xs.length hi = xs.length) ∧ ∀ p, H p = none → Q (.ref p) (upd H p (.tup (cutV xs lo hi)))
/-! ### t < u, t + u -/
def rLtT (K : PySem.W.Frag) : R2 := fun x y H Q => ∃ a b ns ms, x = .ref a ∧ y = .ref b ∧ SqT K H a (ns.map V.int) ∧ SqT K H b (ms.map V.int) ∧ Q (.bl (HT.lexLt ns ms)) H
/-- t + u, t not empty: u empty gives t itself -/
def rCatT (K : PySem.W.Frag) : R2 := fun x y H Q => ∃ a b xs ys, x = .ref a ∧ y = .ref b ∧ SqT K H a xs ∧ SqT K H b ys ∧ xs ≠ [] ∧ xs.length + ys.length ≤ sizeLine ∧
  (ys = [] → Q (.ref a) H) ∧ (ys ≠ [] → ∀ p, H p = none → Q (.ref p) (upd H p (.tup (xs ++ ys))))
end
end L2

namespace L2
open PySem PySem.Spec PyProof.Rows

/-! ### places -/
/-- the place that an index of any sign means -/
def ixN (n : Nat) (i : Int) : Option Nat := if 0 ≤ i then (if i < n then some i.toNat else none) else if -(n : Int) ≤ i then some (i + n).toNat else none
def atI {α : Type} (xs : List α) (i : Int) : Option α := (ixN xs.length i).bind fun j => xs[j]?
theorem ixN_seq {n : Nat} {i : Int} {j : Nat} (h : ixN n i = some j) : seqIndex? i n = some j ∧ j < n ∧ -(n : Int) ≤ i ∧ i < n := by
  unfold ixN at h
  by_cases h0 : 0 ≤ i
  · rw [if_pos h0] at h
    by_cases h1 : i < n
    · rw [if_pos h1] at h
      have e : i.toNat = j := Option.some.inj h
      exact ⟨by rw [seqIndex_of h0 h1, e], by omega, by omega, h1⟩
    · rw [if_neg h1] at h; cases h
  · rw [if_neg h0] at h
    by_cases h1 : -(n : Int) ≤ i
    · rw [if_pos h1] at h
      have e : (i + n).toNat = j := Option.some.inj h
      exact ⟨by rw [seqIndex_neg (by omega) h1, e], by omega, h1, by omega⟩
    · rw [if_neg h1] at h; cases h
theorem atI_get {α : Type} {xs : List α} {i : Int} {v : α} (h : atI xs i = some v) : ∃ j, seqIndex? i xs.length = some j ∧ xs[j]? = some v ∧ j < xs.length ∧ -(xs.length : Int) ≤ i ∧ i < xs.length := by
  unfold atI at h
  cases e : ixN xs.length i with
  | none => rw [e] at h; cases h
  | some j =>
    rw [e] at h
    obtain ⟨h1, h2, h3, h4⟩ := ixN_seq e
    exact ⟨j, h1, h, h2, h3, h4⟩
theorem atI_nat {α : Type} {xs : List α} {j : Nat} {v : α} (h : xs[j]? = some v) : atI xs (j : Int) = some v := by
  have hj : j < xs.length := (List.getElem?_eq_some_iff.mp h).1
  have e : ixN xs.length (j : Int) = some j := by
    unfold ixN
    rw [if_pos (by omega), if_pos (by omega)]; simp
  unfold atI; rw [e]; exact h
/-! ### what may be subscripted -/
/-- what stands as an index of a plain subscript -/
def PlainIx (b : Expr) : Prop := ∀ o i, subscripted b false o i = operate [o, i] (getItem o i)
/-- a subscript by values -/
def IxR (X : Cx) (r : R2) : Prop :=
  ∀ (value slice : Expr) (pins : List (Addr × Obj)) (s : Shared) (σ : St) (H : Hp) (x y : V) (v u : Value) (Q : VK), Inv X pins σ H s → RelV x v → RelV y u → r x y H Q →
    subscripted slice false v u = operate [v, u] (getItem v u) → wpAny (model X.prog X.w) X.A (subscriptTail value slice v u) (EP X pins σ Q) X.xe s
/-- a call of a builtin's method by values: the receiver, the arguments -/
def MtR (X : Cx) (id : String) (r : V → List V → Hp → VK → Prop) : Prop :=
  ∀ (pins : List (Addr × Obj)) (s : Shared) (σ : St) (H : Hp) (x : V) (xs : List V) (v : Value) (us : List Value) (Q : VK), Inv X pins σ H s → RelV x v → Vals xs us → r x xs H Q →
    wpAny (model X.prog X.w) X.A (call (.builtin id) (v :: us)) (EP X pins σ Q) X.xe s
section
variable {X : Cx} {a b : Expr} {ta tb : TE} {pos : Pos}
theorem IxR.or {r r' : R2} (h : IxR X r) (h' : IxR X r') : IxR X (fun x y H Q => r x y H Q ∨ r' x y H Q) := by
  intro value slice pins s σ H x y v u Q I rx ry q hs
  rcases q with q | q
  · exact h value slice pins s σ H x y v u Q I rx ry q hs
  · exact h' value slice pins s σ H x y v u Q I rx ry q hs
/-- a[b] -/
theorem pe_ix {r : R2} (hr : IxR X r) (ha : PE X a ta) (hb : PE X b tb) (hs : PlainIx b) : PE X (.Subscript a b pos) (tOp r ta tb) := by
  intro pins s σ H Q I h
  exact Subscript_ (binT ha hb I h fun v u s2 x y H2 I2 rx ry q => hr a b pins s2 σ H2 x y v u Q I2 rx ry q (hs _ _))

def rIxL (K : PySem.W.Frag) : R2 := fun x y H Q => ∃ p xs i v, x = .ref p ∧ y = .int i ∧ SqL K H p xs ∧ atI xs i = some v ∧ Q v H
def rIxT (K : PySem.W.Frag) : R2 := fun x y H Q => ∃ p xs i v, x = .ref p ∧ y = .int i ∧ SqT K H p xs ∧ atI xs i = some v ∧ Q v H
def rIxS : R2 := fun x y H Q => ∃ z i c, x = .str z ∧ y = .int i ∧ z.length ≤ sizeLine ∧ atI z.cps.toList i = some c ∧ Q (.str ⟨#[c]⟩) H
theorem ix_list : IxR X (rIxL X.K) := by
  intro value slice pins s σ H x y v u Q I rx ry h hs
  obtain ⟨p, xs, i, z, rfl, rfl, hq, he, q⟩ := h
  cases rx
  obtain ⟨t, rfl⟩ := ry
  obtain ⟨its, r, pl, hz⟩ := I.list hq
  obtain ⟨j, h1, h2, h3, h4, h5⟩ := atI_get he
  obtain ⟨w, ew, rw'⟩ := r.get h2
  have hl := r.length
  have hn := line63
  have fin : EP X pins σ Q w s := ⟨z, H, I, rw', q⟩
  by_cases h0 : 0 ≤ i
  · have hj : i.toNat = j := by
      rw [seqIndex_of h0 h5] at h1
      exact Option.some.inj h1
    exact item_listR pl.isList h0 (by omega) (by rw [hj]; simpa using ew) fin hs
  · have hj : (i + (its.toArray.size : Int)).toNat = j := by
      rw [seqIndex_neg (by omega) h4] at h1
      rw [List.size_toArray, ← hl]
      exact Option.some.inj h1
    exact subscriptTail_builtinR (x := w) pl.isList.typeIs slot_list_getitem.lookup
      (wpAny_getItem_list_neg (Q := fun r s' => r = w ∧ EP X pins σ Q r s') pl.isList (by omega) (by rw [List.size_toArray] <;> omega) (by omega) (by rw [hj]; simpa using ew) ⟨rfl, fin⟩) hs
theorem ix_tup : IxR X (rIxT X.K) := by
  intro value slice pins s σ H x y v u Q I rx ry h hs
  obtain ⟨p, xs, i, z, rfl, rfl, hq, he, q⟩ := h
  cases rx
  obtain ⟨t, rfl⟩ := ry
  obtain ⟨its, r, pl, hz⟩ := I.tuple hq
  obtain ⟨j, h1, h2, h3, h4, h5⟩ := atI_get he
  obtain ⟨w, ew, rw'⟩ := r.get h2
  have hl := r.length
  have hn := line63
  have fin : EP X pins σ Q w s := ⟨z, H, I, rw', q⟩
  exact subscriptTail_builtinR (x := w) pl.typeIs slot_tuple_getitem.lookup
    (getItem_tuple (j := j) (Q := fun r s' => r = w ∧ EP X pins σ Q r s') pl (by omega) (by omega) (by rw [List.size_toArray, ← hl]; exact h1) (by simpa using ew) ⟨rfl, fin⟩) hs
/-- list, tuple or str -/
def rIx (K : PySem.W.Frag) : R2 := fun x y H Q => rIxL K x y H Q ∨ rIxT K x y H Q ∨ rIxS x y H Q
/-! ### xs[i] = v, any sign -/
def rSetL : V → V → V → Hp → (Hp → Prop) → Prop := fun o i v H Q => ∃ p xs k j, o = .ref p ∧ i = .int k ∧ H p = some (.lst xs) ∧ ixN xs.length k = some j ∧ Q (upd H p (.lst (xs.set j v)))
/-! ### slices -/
theorem slice_bounds (lo hi : Option Int) (n : Nat) : (sliceBounds lo hi none n).1 = ((HT.sIx n 0 lo : Nat) : Int) ∧ (sliceBounds lo hi none n).2.1 = ((HT.sIx n n hi : Nat) : Int) ∧ (sliceBounds lo hi none n).2.2 = 1 := by
  refine ⟨?_, ?_, rfl⟩
  · cases lo with
    | none => simp [sliceBounds, HT.sIx]
    | some i =>
      simp only [sliceBounds, HT.sIx, Option.getD_none, show (1 : Int) > 0 by decide, if_true]
      by_cases h : i < 0
      · simp only [h, if_true] <;> omega
      · simp only [h, if_false] <;> omega
  · cases hi with
    | none => simp [sliceBounds, HT.sIx]
    | some i =>
      simp only [sliceBounds, HT.sIx, Option.getD_none, show (1 : Int) > 0 by decide, if_true]
      by_cases h : i < 0
      · simp only [h, if_true] <;> omega
      · simp only [h, if_false] <;> omega
theorem slicePick_cut (its : List Value) (lo hi : Option Int) : slicePick its.toArray lo hi none = ((its.drop (HT.sIx its.length 0 lo)).take (HT.sIx its.length its.length hi - HT.sIx its.length 0 lo)).toArray := by
  obtain ⟨h1, h2, h3⟩ := slice_bounds lo hi its.toArray.size
  unfold slicePick
  rw [h1, h2, h3]
  simp only [sliceRange_one, pick_run, List.size_toArray] <;> rfl
/-- xs[lo:hi] of a list: a new list -/
def rSlL (K : PySem.W.Frag) : V → Option Int → Option Int → Hp → VK → Prop := fun x lo hi H Q => ∃ a xs, x = .ref a ∧ SqL K H a xs ∧ ∀ p, H p = none → Q (.ref p) (upd H p (.lst (cutV xs lo hi)))
theorem sl_list : SlR X (rSlL X.K) := by
  intro pins s σ H x v vl vu lo hi sl Q I rx hs pl pu h
  obtain ⟨a, xs, rfl, hx, q⟩ := h
  cases rx
  obtain ⟨its, r, ht, hz⟩ := I.list hx
  have hlen := r.length
  refine ⟨"list", _, slot_list_getitem.lookup, ht.isList.typeIs, ?_⟩
  refine wpAny_getItem_list_slice ht.isList hs pl pu .none (by simp) ?_ (by rw [List.size_toArray] <;> omega)
  rw [slicePick_cut, ← hlen]
  refine ⟨.ref s.heap.objs.size, _, I.laid (t' := s.toks) (o := .lst (cutV xs lo hi)) (fun b ob q => Heap.get?_push_of_some _ q) (Nat.le_refl _) ?_, rfl, q _ (I.hok.fresh (Nat.le_refl _))⟩
  exact ⟨Nat.le_trans (cutV_length xs lo hi) hz, _, 0, (r.drop (HT.sIx xs.length 0 lo)).take (HT.sIx xs.length xs.length hi - HT.sIx xs.length 0 lo), Heap.get?_push_size _ rfl⟩

/-! ### in, not in: flat items -/
def flatV : V → Bool
  | .non => true
  | .bl _ => true
  | .int _ => true
  | .str _ => true
  | _ => false
/-- == of flat values -/
def eqV : V → V → Bool
  | .non, .non => true
  | .bl a, .bl b => a == b
  | .bl a, .int b => (if a then 1 else 0) == b
  | .int a, .bl b => a == (if b then 1 else 0)
  | .int a, .int b => a == b
  | .str a, .str b => a == b
  | _, _ => false
/-- the items' answers, read off the values (a value's own answer does not lean on its token) -/
def eqU (x : V) (u : Value) : Bool := match u with
  | .none => eqV .non x
  | .bool b => eqV (.bl b) x
  | .int i _ => eqV (.int i) x
  | .str z _ => eqV (.str z) x
  | _ => false
def inV (x : V) (xs : List V) : Bool := xs.any fun y => eqV y x
/-- x in a list or tuple of flat items -/
def rIn (K : PySem.W.Frag) (neg : Bool) : R2 := fun x y H Q => ∃ p xs, y = .ref p ∧ (SqL K H p xs ∨ SqT K H p xs) ∧ flatV x = true ∧ xs.all flatV = true ∧ Q (.bl (if neg then !inV x xs else inV x xs)) H
/-! ### len, list(x), tuple(x) of any list or tuple that is read -/
/-! ### the call of a builtin's method: o.m(..) -/
/-- the value is of that builtin type -/
def tyV (K : PySem.W.Frag) (T : String) (x : V) (H : Hp) : Prop := match x with
  | .str _ => T = "str"
  | .int _ => T = "int"
  | .ref p => (T = "list" ∧ ∃ xs, SqL K H p xs) ∨ (T = "tuple" ∧ ∃ o, K.lookup p = some o ∧ o.cls = .type "tuple" ∧ o.dict = none) ∨
      (T = "dict" ∧ ((∃ kvs, H p = some (.dK kvs)) ∨ ∃ kvs, H p = some (.dT kvs))) ∨ (T = "set" ∧ ∃ S n, H p = some (.set S n))
  | _ => False
theorem tyV_is {pins : List (Addr × Obj)} {σ : St} {H : Hp} {s : Shared} {T : String} {x : V} {v : Value} (I : Inv X pins σ H s) (r : RelV x v) (ty : tyV X.K T x H) :
    s.TypeIs v T ∧ ∀ a, v = .ref a → ∃ ob, s.heap.get? a = some ob ∧ ob.dict = none := by
  cases x with
  | str z =>
    obtain ⟨t, rfl⟩ := r
    cases (show T = "str" from ty)
    exact ⟨typeIs_str s z t, fun _ e => nomatch e⟩
  | int i =>
    obtain ⟨t, rfl⟩ := r
    cases (show T = "int" from ty)
    exact ⟨typeIs_int s i t, fun _ e => nomatch e⟩
  | ref p =>
    cases r
    rcases ty with ⟨rfl, xs, hq⟩ | ⟨rfl, o, hk, hc, hd⟩ | ⟨rfl, hk⟩ | ⟨rfl, S, n, hk⟩
    · obtain ⟨its, _, pl, _⟩ := I.list hq
      refine ⟨pl.isList.typeIs, fun a e => ?_⟩
      cases e
      obtain ⟨o, n, e, c, hd, _⟩ := pl
      exact ⟨o, e, hd⟩
    · refine ⟨⟨o, I.kIn p o hk, hc⟩, fun a e => ?_⟩
      cases e
      exact ⟨o, I.kIn _ o hk, hd⟩
    · have z : ∃ o, s.heap.get? p = some o ∧ o.ExactDict := by
        rcases hk with ⟨kvs, hk⟩ | ⟨kvs, hk⟩
        · obtain ⟨_, _, _, _, o, _, _, e, ex, _⟩ := I.hok p _ hk
          exact ⟨o, e, ex⟩
        · obtain ⟨_, _, _, _, o, _, _, e, ex, _⟩ := I.hok p _ hk
          exact ⟨o, e, ex⟩
      obtain ⟨o, e, ex⟩ := z
      refine ⟨⟨o, e, ex.1⟩, fun a e2 => ?_⟩
      cases e2
      exact ⟨o, e, ex.2.1⟩
    · obtain ⟨o, _, _, _, e, ex, _⟩ := I.hok p _ hk
      refine ⟨⟨o, e, ex.1⟩, fun a e2 => ?_⟩
      cases e2
      exact ⟨o, e, ex.2.1⟩
  | _ => exact False.elim ty
def tBM0 (K : PySem.W.Frag) (T : String) (r : V → List V → Hp → VK → Prop) (to : TE) : TE := fun σ H Q => to σ H fun x H1 => tyV K T x H1 ∧ r x [] H1 Q
def tBM (K : PySem.W.Frag) (T : String) (r : V → List V → Hp → VK → Prop) (to : TE) (t : TA) : TE := fun σ H Q => to σ H fun x H1 => tyV K T x H1 ∧ t σ H1 fun xs H2 => r x xs H2 Q
variable {o e : Expr} {es : List Expr} {to : TE} {t : TA} {name : Str} {apos cpos : Pos} {T id : String} {r : V → List V → Hp → VK → Prop}
theorem pe_bm (pa : PlainAttrs T) (slot : Slot T name id) (hty : typeOf (.builtin id) = pure (.type "method_descriptor")) (hm : MtR X id r) (ho : PE X o to) (ha : PA X (e :: es) t)
    (hbase : attributeBase o name X.env (eval o X.env) = eval o X.env := by rfl)
    (hfew : ((backTo cpos (starEach (e :: es) X.env)).all (fun x => !x.1) && (backToKw cpos (keywordEach [] X.env)).all (fun x => x.1.isSome)
      && decide ((e :: es).length + ([] : List Keyword).length + (if ([] : List Keyword).isEmpty then 0 else 1) < 30)) = true := by rfl)
    (hline : (apos.endLine == cpos.line) = true := by rfl) (hs : starEach (e :: es) X.env = (false, eval e X.env) :: starEach es X.env := by rfl) (hplain : (backTo cpos (starEach es X.env)).any (·.1) = false := by rfl) :
    PE X (.Call (.Attribute o name apos) (e :: es) [] cpos) (tBM X.K T r to t) := by
  intro pins s σ H Q I h
  refine wpAny_Call_method_late hbase hfew hline rfl (thn (ho pins s σ H _ I h) fun v s1 ⟨x, H1, I1, r1, ty, q1⟩ => ?_)
  obtain ⟨h1, h2⟩ := tyV_is I1 r1 ty
  refine ⟨T, id, pa, slot, hty, h1, h2, ?_⟩
  have hA := ha cpos pins s1 σ H1 _ I1 q1
  rw [hs] at hA ⊢
  refine Calls.callWith_builtin (by show (false || (backTo cpos (starEach es X.env)).any (·.1)) = false; rw [hplain] <;> rfl) (Calls.evalArgs_plain ?_)
  exact thn hA fun us s2 ⟨vs, H2, I2, r2, q2⟩ => hm pins s2 σ H2 x vs v us Q I2 r1 r2 q2
/- xs.append(e), list.index on a module's tuple .. are MtR facts of 06m -/
end
end L2

namespace L2
open PySem PySem.Spec PyProof.Rows

def MtM (X : Cx) (id : String) (r : V → List V → Hp → VK → Prop) : Prop :=
  ∀ (pins : List (Addr × Obj)) (s : Shared) (σ : St) (H : Hp) (x : V) (xs : List V) (v : Value) (us : List Value) (Q : VK), Inv X pins σ H s → RelV x v → Vals xs us → r x xs H Q →
    wpAny (model X.prog X.w) X.A (call (.builtin id) (v :: us)) (EP X pins σ Q) X.xe s

/-! ### lists of values -/
theorem Vals.one : ∀ {x : V} {us : List Value}, Vals [x] us → ∃ u, us = [u] ∧ RelV x u
  | _, _, .cons r .nil => ⟨_, rfl, r⟩
theorem Vals.reverse {xs : List V} {us : List Value} (h : Vals xs us) : Vals xs.reverse us.reverse := by
  induction h with
  | nil => exact .nil
  | cons r t ih => rw [List.reverse_cons, List.reverse_cons]; exact Vals.append ih (.cons r .nil)
theorem Vals.rep {xs : List V} {us : List Value} (h : Vals xs us) : ∀ k : Nat, Vals (List.replicate k xs).flatten (List.replicate k us).flatten
  | 0 => .nil
  | k + 1 => by
    rw [List.replicate_succ, List.replicate_succ, List.flatten_cons, List.flatten_cons]
    exact Vals.append h (Vals.rep h k)
theorem foldl_rep (its : List Value) : ∀ (k : Nat) (acc : List Value),
    List.foldl (fun x1 x2 => x1 ++ x2) acc.toArray (List.replicate k its.toArray) = (acc ++ (List.replicate k its).flatten).toArray
  | 0, acc => by simp
  | k + 1, acc => by
    have e : acc.toArray ++ its.toArray = (acc ++ its).toArray := by simp
    have e2 : (acc ++ its) ++ (List.replicate k its).flatten = acc ++ (List.replicate (k + 1) its).flatten := by
      rw [List.replicate_succ, List.flatten_cons, List.append_assoc]
    rw [← e2, ← foldl_rep its k (acc ++ its), ← e, List.replicate_succ, List.foldl_cons]

section
variable {X : Cx} {pins : List (Addr × Obj)} {σ : St} {H : Hp} {s : Shared} {l b : Addr} {xs ys zs : List V}

/-! ### the two steps: a tracked list is rewritten, a new list is laid -/
theorem Inv.lset {its its' : List Value} {n : Nat} {f : Array Value → Array Value} {t' : Nat} (I : Inv X pins σ H s) (hH : H l = some (.lst xs))
    (e : s.heap.get? l = some { cls := .type "list", data := .seq its.toArray n }) (hf : f its.toArray = its'.toArray) (hv : Vals ys its') (hz : ys.length ≤ sizeLine) :
    Inv X pins σ (upd H l (.lst ys)) { s with heap := s.heap.update l (Obj.mapSeq f), toks := t' } := by
  have q := PySem.IsL.update e f
  rw [hf] at q
  refine I.write (x := l) (e := l) (by rw [hH]; exact trivial) (.inl rfl) (fun b' u hb hu => (Heap.get?_update_other s.heap (Obj.mapSeq f) (Ne.symm hb)).trans hu) ⟨_, q⟩ ?_
  exact ⟨hz, its', _, hv, q⟩
theorem Inv.lnew {its : List Value} {t' : Nat} (I : Inv X pins σ H s) (hv : Vals ys its) (hz : ys.length ≤ sizeLine) :
    Inv X pins σ (upd H s.heap.objs.size (.lst ys)) { s with heap := s.heap.push { cls := .type "list", data := .seq its.toArray }, toks := t' } :=
  I.laid (fun _ _ q => Heap.get?_push_of_some _ q) (Nat.le_refl _) ⟨hz, its, 0, hv, Heap.get?_push_size _ rfl⟩
theorem Inv.fresh (I : Inv X pins σ H s) : H s.heap.objs.size = none := I.hok.fresh (Nat.le_refl _)
theorem Inv.lstM (I : Inv X pins σ H s) (hH : H l = some (.lst xs)) : xs.length ≤ sizeLine ∧ ∃ (its : List Value) (n : Nat), Vals xs its ∧ xs.length = its.length ∧ s.heap.get? l = some { cls := .type "list", data := .seq its.toArray n } := by
  obtain ⟨z, its, n, r, e⟩ := I.hok l _ hH
  exact ⟨z, its, n, r, r.length, e⟩

theorem notLongL {n : Nat} (h : n ≤ sizeLine) : Builtin.List.listTooLong n = false := by
  unfold Builtin.List.listTooLong
  exact decide_eq_false (by omega)
end

section
variable {X : Cx}

/-! ### methods -/
def rAppend : V → List V → Hp → VK → Prop := fun x vs H Q => ∃ l xs y, x = .ref l ∧ vs = [y] ∧ H l = some (.lst xs) ∧ xs.length < sizeLine ∧ Q .non (upd H l (.lst (xs ++ [y])))
theorem mt_append : MtM X "list.append" rAppend := by
  intro pins s σ H x vs v us Q I rx rv h
  obtain ⟨l, xs, y, rfl, rfl, hH, hz, q⟩ := h
  cases rx
  obtain ⟨u, rfl, ru⟩ := rv.one
  obtain ⟨z, its, n, r, hl, e⟩ := I.lstM hH
  refine call_meets F.slot_list_append ⟨_, e, rfl⟩ F.entry_list_append (F.args_list_append_2 _ _) (PySem.list_append l its.toArray n u (by rw [List.size_toArray]; omega)) ⟨e, ?_⟩
  refine ⟨.non, _, I.lset (its' := its ++ [u]) hH e (by simp) (r.append (.cons ru .nil)) ?_, rfl, q⟩
  rw [List.length_append, List.length_singleton]
  omega

def rExtend : V → List V → Hp → VK → Prop := fun x vs H Q => ∃ l b xs zs, x = .ref l ∧ vs = [.ref b] ∧ H l = some (.lst xs) ∧ H b = some (.lst zs) ∧ xs.length + zs.length ≤ sizeLine ∧ Q .non (upd H l (.lst (xs ++ zs)))
def rPop : V → List V → Hp → VK → Prop := fun x vs H Q => ∃ l xs y, x = .ref l ∧ vs = [] ∧ H l = some (.lst xs) ∧ xs[xs.length - 1]? = some y ∧ Q y (upd H l (.lst xs.dropLast))
def rPopAt : V → List V → Hp → VK → Prop := fun x vs H Q => ∃ l xs i k y, x = .ref l ∧ vs = [.int i] ∧ H l = some (.lst xs) ∧ -(2 ^ 63) ≤ i ∧ i < 2 ^ 63 ∧ seqIndex? i xs.length = some k ∧ xs[k]? = some y ∧ Q y (upd H l (.lst (xs.eraseIdx k)))
def rReverse : V → List V → Hp → VK → Prop := fun x vs H Q => ∃ l xs, x = .ref l ∧ vs = [] ∧ H l = some (.lst xs) ∧ Q .non (upd H l (.lst xs.reverse))
def rClear : V → List V → Hp → VK → Prop := fun x vs H Q => ∃ l xs, x = .ref l ∧ vs = [] ∧ H l = some (.lst xs) ∧ Q .non (upd H l (.lst []))
/-! ### list + list, list += list, list * int -/
def rCat : R2 := fun x y H Q => ∃ l b xs zs, x = .ref l ∧ y = .ref b ∧ H l = some (.lst xs) ∧ H b = some (.lst zs) ∧ xs.length + zs.length ≤ sizeLine ∧ ∀ p, H p = none → Q (.ref p) (upd H p (.lst (xs ++ zs)))
theorem op_cat : OpR X (binaryOp .Add) rCat := by
  intro pins s σ H x y v u Q I rx ry h
  obtain ⟨l, b, xs, zs, rfl, rfl, hH, hB, hz, q⟩ := h
  cases rx
  cases ry
  obtain ⟨z, its, n, r, hl, e⟩ := I.lstM hH
  obtain ⟨z2, its2, n2, r2, hl2, e2⟩ := I.lstM hB
  refine PySem.P.add_list e e2 ?_ (by rw [List.size_toArray, List.size_toArray]; omega)
  have ea : its.toArray ++ its2.toArray = (its ++ its2).toArray := by simp
  rw [ea]
  exact ⟨.ref _, _, I.lnew (t' := s.toks) (r.append r2) (by rw [List.length_append]; omega), rfl, q _ I.fresh⟩
/-- a list times an int (a negative one is nothing) -/
def rRep : R2 := fun x y H Q => ∃ l k xs, x = .ref l ∧ y = .int k ∧ H l = some (.lst xs) ∧ -(2 ^ 63) ≤ k ∧ k < 2 ^ 63 ∧ xs.length * k.toNat ≤ sizeLine ∧
  ∀ p, H p = none → Q (.ref p) (upd H p (.lst (List.replicate k.toNat xs).flatten))
theorem len_rep {α : Type} (xs : List α) (k : Nat) : (List.replicate k xs).flatten.length = k * xs.length := by
  induction k with
  | zero => simp
  | succ k ih => rw [List.replicate_succ, List.flatten_cons, List.length_append, ih, Nat.succ_mul, Nat.add_comm]
theorem op_rep : OpR X (binaryOp .Mult) rRep := by
  intro pins s σ H x y v u Q I rx ry h
  obtain ⟨l, k, xs, rfl, rfl, hH, h1, h2, hz, q⟩ := h
  cases rx
  obtain ⟨t, rfl⟩ := ry
  obtain ⟨z, its, n, r, hl, e⟩ := I.lstM hH
  have hlen : its.toArray.size * k.toNat ≤ sizeLine := by rw [List.size_toArray, ← hl]; exact hz
  have hcap : ¬ its.toArray.size * k.toNat > (2 ^ 63 - 1) / 8 := by
    have : (sizeLine : Nat) ≤ (2 ^ 63 - 1) / 8 := by decide
    omega
  have hfit : ¬ (!Builtin.List.listFitsIndex k) = true := by
    rw [fitsIndex_both h1 h2]
    exact Bool.false_ne_true
  have hlong : ¬ Builtin.List.listTooLong (its.toArray.size * k.toNat) = true := by
    rw [notLongL hlen]
    exact Bool.false_ne_true
  have hnew : List.foldl (fun x1 x2 => x1 ++ x2) #[] (List.replicate (if its.toArray.isEmpty = true then 0 else k.toNat) its.toArray) = (List.replicate k.toNat its).flatten.toArray := by
    have f0 : ∀ m : Nat, List.foldl (fun x1 x2 => x1 ++ x2) #[] (List.replicate m its.toArray) = (List.replicate m its).flatten.toArray := fun m => by
      have := foldl_rep its m []
      rw [List.nil_append] at this
      exact this
    rw [f0]
    cases its with
    | nil => simp
    | cons a r' => rw [if_neg (by simp)]
  refine wpAny_binaryOp_repeat_ref (T := "list") (U := "int") (by decide) ⟨_, e, rfl⟩ (fun s' => typeIs_int s' k t) noFill_list_mul F.fills_int_mul F.slot_int_rmul repeat_list F.slot_int_index.lookup
    (call_meets F.slot_int_rmul (typeIs_int s k t) F.entry_int_rmul (F.args_int_rmul_2 _ _) (int___rmul___int_list k t l its.toArray n)
      ⟨e, rfl, ⟨_, e, rfl⟩, call_meets F.slot_list_mul ⟨_, e, rfl⟩ F.entry_list_mul (F.args_list_mul_2 _ _) (AutoListH.list___mul___list_int_3 l its.toArray n k t hfit hcap hlong) ⟨e, ?_⟩⟩)
  rw [hnew]
  exact ⟨.ref _, _, I.lnew (t' := s.toks) (r.rep k.toNat) (by rw [len_rep, Nat.mul_comm]; exact hz), rfl, q _ I.fresh⟩

/-! ### del xs[i] -/
end

/-! ### xs[a:b] = ys -/
section
variable {prog : Program} {w : World} {A : Around} {E : Value → Shared → Prop} {s : Shared}
end

section
variable {X : Cx}
end
end L2

namespace Att
open PySem PySem.W PySem.Calls PyProof.Rows

/-! ### the script -/
theorem ints_of_wellAll {P : Params} {h : Heap} : ∀ (ns : List Int) (vs : List Value), WellAll P h vs (ns.map WData.int) → IntsAre vs ns := by
  intro ns
  induction ns with
  | nil =>
    intro vs w
    rw [List.map_nil] at w
    cases w
    exact .nil
  | cons n ns ih =>
    intro vs w
    rw [List.map_cons] at w
    cases w with
    | cons a b =>
      cases a
      exact .cons _ _ (ih _ b)

theorem script_of {l : OpenLaw} {n : Nat} (hn : l.most = some n) {P : Params} {h : Heap} {args : List WData} {vals : List Value}
    (hpre : l.row.toRowW.claim.pre args = true) (hwl : WellAll P h vals args) :
    ∃ a vs ns, vals = [Value.ref a] ∧ args = [WData.list (ns.map WData.int)] ∧ h.get? a = some { cls := .type "list", data := .seq vs.toArray } ∧ IntsAre vs ns ∧ ns.length ≤ n := by
  have hsh : WShape.hasAll [] args [.list .int] = true := (pre_splitW hpre).1
  have hc : l.pre.holds [] { args := args } = true := (pre_splitW hpre).2
  obtain ⟨d, r, rfl, h1, h2⟩ := hasAllW_cons hsh
  obtain rfl := hasAllW_nil h2
  obtain ⟨xs, rfl, h3⟩ := hasW_list h1
  obtain ⟨ns, rfl⟩ := items_int h3
  have hlen : ns.length ≤ n := by
    unfold OpenLaw.pre at hc
    have h4 : (WTm.not (.lt (.lit (.int (n : Int))) (.len (.arg 0)))).holds [] { args := [.list (ns.map .int)] } = true := by
      have h4 := (holds_andW hc).1
      rw [hn] at h4
      exact h4
    have h5 := condW_of h4 (w_not (w_lt w_lit (w_len_list (w_arg rfl))))
    rw [List.length_map] at h5
    refine Nat.le_of_not_lt fun q => ?_
    have q' : (n : Int) < ((ns.length : Nat) : Int) := by omega
    first
      | (rw [decide_eq_true q'] at h5; exact absurd h5 (by decide))
      | (simp at h5; omega)
  cases hwl with
  | cons w1 w2 =>
    cases w2
    cases w1 with
    | list ho hall => exact ⟨_, _, ns, rfl, rfl, ho, ints_of_wellAll ns _ hall, hlen⟩

theorem post_true (l : OpenLaw) (args : List WData) : l.row.toRowW.claim.post args (.bool true) args = true :=
  postW_of (r := l.row.toRowW) (X := (true == true))
    (show WShape.has [] (.bool true) .bool = true by first | rfl | decide | simp [WShape.has, WShape.arms, WShape.armsAll])
    (show (WTm.eq .res (.lit (.bool true))).value [] { args := args, res := some (.bool true), after := args } = some (.bool (true == true)) from w_eq_bool (w_res rfl) w_lit) rfl

/-! ### the attachment: holds_open's last premise (the goal 'hc' behind k_head) from a wpAny of the law's body -/
/-- the same from a codeAny of the CALL (for a layer whose function contracts speak of calls) -/
theorem attach_call {l : OpenLaw} {n : Nat} {q : Program} {loose : List Str} {XP : (Str → Option Value) → Heap → Prop} {YP : World → Heap → Prop} {d : DefRec}
    (hn : l.most = some n) (hdf : d.params.defaults = [])
    (call : ∀ (w : World) (s₀ s₁ : Shared) (mg mb : Str → Option Value) (fa : Addr) (o : Obj) (pm cd doc : Value) (a : Addr) (vs : List Value) (ns : List Int),
      Ground q loose [] XP w s₀ mg mb s₁.heap → YP w s₁.heap →
      s₁.heap.get? fa = some o → o.data = .func (docDef d.name d.params d.body d.scope pm cd doc) → s₁.heap.CodeRec cd d.name → mg d.name = some (.ref fa) →
      s₁.heap.get? a = some { cls := .type "list", data := .seq vs.toArray } → IntsAre vs ns → ns.length ≤ n → s₁.gens = #[] →
      codeAny (model l.prog w) callerA (.call (.ref fa) ⟨[.ref a], []⟩) (fun r s' => r = .ok (.ret (.bool true)) ∧ OldK s₁.heap s'.heap ∧ s'.os = s₁.os ∧ AllBare s'.gens) s₁) :
    WalkO q loose XP YP l.row.toRowW d [] (fun f vs => PySem.call f vs) := by
  intro w s₀ s₁ mg mb G Y fa o pm cd doc dV kV ho hd hcd hD hmg hg args vals as hpre hlay hrd hwl hlo
  obtain rfl : dV = .none := Dflts.none hD hdf
  obtain rfl : kV = .none := Dflts.noKw hD
  obtain ⟨a, vs, ns, rfl, rfl, hobj, hints, hlen⟩ := script_of hn hpre hwl
  refine enter_call (codeAny_mono (call w s₀ s₁ mg mb fa o pm cd doc a vs ns G Y ho (fd_plain hd) hcd hmg hobj hints hlen hg) fun r s' hq => ?_)
  obtain ⟨rfl, h2, h3, h4⟩ := hq
  exact ⟨.inl ⟨.bool true, .bool true, [], rfl, fun _ => rfl, .bool true, post_true l _, fun _ => ⟨List.Pairwise.nil, fun _ hm => (nomatch hm)⟩⟩, h2, h3, h4⟩

/-! ### rules over ANY heap (no ledger) from facts about the written part K: the library's own take a ledger (News) for what they write -/
section
variable {prog : Program} {w : World} {A : Around} {E : Value → Shared → Prop} {s : Shared} {K : Frag}

/-! the whole heap as the ledger: makes every rule that writes through a ledger a rule over any heap -/
def noObjs (h : Heap) : Heap := { h with objs := #[] }
def ledger (h : Heap) (L d : Addr) : List (Addr × Obj) := (List.range h.objs.size).filterMap fun a => if a = L ∨ a = d then none else (h.get? a).map fun o => (a, o)
end
end Att

namespace L2
open PySem PySem.Spec PyProof.Rows

theorem vals_ints : ∀ {vs : List Value} {ns : List Int}, IntsAre vs ns → Vals (ns.map V.int) vs
  | _, _, .nil => .nil
  | _, _, .cons n t h => .cons ⟨t, rfl⟩ (vals_ints h)

/-- nothing is tracked but the script, known to the object (or it is an object of the module) -/
def Only (H : Hp) : Prop := ∀ b, H b = none ∨ ∃ o xs, H b = some (.frz o (.lst xs))

/-- THE HEAD: the law's promise, at the heap behind the top. F, the promise of the law's def, may use that base is part of the heap (so K.In base, base.Ns mainGlobals mg stand in Mod) -/
theorem law_call {P : Program} {w : World} {K : PySem.W.Frag} {mg mb : Str → Option Value} {CX : CXT} {k : Nat} {fa a : Addr} {fd : FuncData} {x : Str} {sp : Sp} {s₁ : Shared} {vs : List Value} {ns : List Int}
    (KX : K.In s₁.heap) (hns : s₁.heap.Ns mainGlobals mg) (hb : s₁.heap.Ns builtinsNs mb) (hbb : ∀ x : Str, x ≠ "__name__" → mb x = bootBuiltins x) (hlim : s₁.heap.NoLimit) (hg : s₁.gens = #[])
    (ha : s₁.heap.get? a = some { cls := .type "list", data := .seq vs.toArray }) (hi : IntsAre vs ns) (hl : ns.length ≤ sizeLine) (hr : Room k callerA)
    (F : ∀ base : Heap, K.In base → base.Ns mainGlobals mg → FnOk P w K mg base CX k fa fd [x] sp) (hbind : ∀ (s : Shared) (u : Value), BindsTo s fd ⟨[u], []⟩ [(x, u)])
    (hsp : ∀ H : Hp, Only H → SqL K H a (ns.map V.int) → sp [.ref a] H (fun v _ => v = .bl true) fun _ _ _ => False)
    (hCX : ∀ H e s', CX [] H s₁ (fun _ _ _ => False) e s' → False) :
    codeAny (model P w) callerA (.call (.ref fa) ⟨[.ref a], []⟩) (fun r s' => r = .ok (.ret (.bool true)) ∧ OldK s₁.heap s'.heap ∧ s'.os = s₁.os ∧ AllBare s'.gens) s₁ := by
  have rv := vals_ints hi
  have lenV := hi.length
  -- from an abstract heap in which nothing but the script may be tracked
  have core : ∀ H : Hp, Only H → SqL K H a (ns.map V.int) → HOk P w H s₁.heap → (∀ b, H b ≠ none → b = a) → (H a ≠ none → K.lookup a = none) →
      codeAny (model P w) callerA (.call (.ref fa) ⟨[.ref a], []⟩) (fun r s' => r = .ok (.ret (.bool true)) ∧ OldK s₁.heap s'.heap ∧ s'.os = s₁.os ∧ AllBare s'.gens) s₁ := by
    intro H hO hS hok hA hK
    have base_of : ∀ {b : Addr} {o : Obj}, s₁.heap.get? b = some o → H b = none → (hidT s₁.heap H).get? b = some o := fun e n => hidT_get e n
    have noA : ∀ {b : Addr} {o : Obj} {es : Array DictEntry} {ep : Nat}, s₁.heap.get? b = some o → o.data = .dict es ep → H b = none := fun {b o es ep} e d => by
      cases q : H b with
      | none => rfl
      | some u =>
        have e' : b = a := hA b (by rw [q]; simp)
        subst e'
        rw [ha] at e; cases e
        have d' : Data.seq vs.toArray _ = Data.dict es ep := d
        cases d'
    have nsK : ∀ {b : Addr} {m : Str → Option Value}, s₁.heap.Ns b m → (hidT s₁.heap H).Ns b m := fun {b m} ⟨o, es, ep, e, d, r⟩ => ⟨o, es, ep, base_of e (noA e d), d, r⟩
    have hKb : K.In (hidT s₁.heap H) := fun b o e => base_of (KX b o e) (by
      cases q : H b with
      | none => rfl
      | some u =>
        have e' : b = a := hA b (by rw [q]; simp)
        subst e'
        rw [hK (by rw [q]; simp)] at e; cases e)
    have hM : Mod K mg (hidT s₁.heap H) := ⟨hKb, nsK hns, ⟨mb, nsK hb, hbb⟩, let ⟨mc, h1, h2⟩ := hlim; ⟨mc, nsK h1, h2⟩⟩
    have e0 : Env0 P w K mg (hidT s₁.heap H) callerA [] s₁ H := ⟨rfl, hM, fun b o e => of_hidT e, Nat.le_of_eq (hidT_size _ _), trivial, fun b hb => absurd (show b ∈ ([] : List Addr) from hb) (by simp), hok, .of_eq hg⟩
    refine codeAny_mono ((F _ hKb (nsK hns)).run callerA [] s₁ H ⟨[.ref a], []⟩ [.ref a] [.ref a] _ _ hr e0 (hbind s₁ (.ref a)) (.cons rfl .nil) (hsp H hO hS)) fun r s' h => ?_
    cases r with
    | error e => exact (hCX H e s' h).elim
    | ok fl =>
      cases fl with
      | next => exact False.elim h
      | brk => exact False.elim h
      | cont => exact False.elim h
      | ret u =>
        obtain ⟨v, H', os, bare, un, hok', r', q⟩ := h
        have q' : v = .bl true := q
        subst q'
        obtain rfl : u = Value.bool true := r'
        refine ⟨rfl, OldK.of_keep fun b o e => ?_, os, bare⟩
        cases q : H b with
        | none => exact un.keep b o e q (by intro z; exact absurd (show b ∈ ([] : List Addr) from z) (by simp)) (by simp)
        | some u =>
          rcases hO b with z | ⟨ob, xs, z⟩
          · rw [q] at z; cases z
          · have z2 := un.frzs b ob _ z
            obtain ⟨e1, _⟩ := hok b _ z
            obtain ⟨e2, _⟩ := hok' b _ z2
            rw [e] at e1; cases e1
            exact e2
  cases hk : K.lookup a with
  | some o =>
    -- the script is one of the module's own objects
    have e := KX a o hk
    rw [ha] at e
    cases e
    refine core (fun _ => none) (fun _ => .inl rfl) (.inr ⟨_, vs.toArray, _, hk, rfl, rfl, rfl, by rw [List.size_toArray, lenV]; exact hl, by simpa using rv⟩) (fun b u z => by have z' : (none : Option HO) = some u := z; cases z') (fun b z => absurd rfl z) fun z => absurd rfl z
  | none =>
    refine core (fun b => if b = a then some (.frz { cls := .type "list", data := .seq vs.toArray } (.lst (ns.map V.int))) else none) (fun b => ?_) (.inl (.inr ⟨{ cls := .type "list", data := .seq vs.toArray }, if_pos rfl⟩)) (fun b u z => ?_) (fun b z => ?_) fun _ => hk
    · by_cases hb : b = a
      · exact .inr ⟨_, _, if_pos hb⟩
      · exact .inl (if_neg hb)
    · by_cases hb : b = a
      · have z' := (if_pos hb).symm.trans z
        cases z'
        subst hb
        exact ⟨ha, by rw [List.length_map]; exact hl, vs, _, rv, ha⟩
      · have z' := (if_neg hb).symm.trans z
        cases z'
    · by_cases hb : b = a
      · exact hb
      · exact absurd (if_neg hb) z
end L2

namespace L2
open PySem PySem.Spec PyProof.Rows

abbrev KOf {K : PySem.W.Frag} {h : Heap} (_ : K.In h) : PySem.W.Frag := K

/-- the goal that k_head leaves (case hc), from the law's promise. F gives the function object fd (K's own) once, then the promise over every base -/
theorem walk_of {l : PySem.W.OpenLaw} {n k : Nat} {q : Program} {loose : List Str} {XP : (Str → Option Value) → Heap → Prop} {YP : World → Heap → Prop} {d : DefRec} {K : Params → PySem.W.Frag} {CX : World → CXT} {sp : World → Sp} {x : Str}
    (hn : l.most = some n) (hn2 : n ≤ sizeLine) (hdf : d.params.defaults = []) (hr : Room k callerA)
    (hY : ∀ (w : World) (h : Heap), YP w h → (K w.params).In h)
    (F : ∀ (w : World) (mg : Str → Option Value) (fa : Addr) (h : Heap), (K w.params).In h → h.Ns mainGlobals mg → mg d.name = some (.ref fa) →
      ∃ fd : FuncData, (∀ (s : Shared) (u : Value), BindsTo s fd ⟨[u], []⟩ [(x, u)]) ∧
        ∀ base : Heap, (K w.params).In base → base.Ns mainGlobals mg → FnOk l.prog w (K w.params) mg base (CX w) k fa fd [x] (sp w))
    (hsp : ∀ (w : World) (H : Hp) (a : Addr) (ns : List Int), ns.length ≤ n → Only H → SqL (K w.params) H a (ns.map V.int) → sp w [.ref a] H (fun v _ => v = .bl true) fun _ _ _ => False)
    (hCX : ∀ (w : World) (H : Hp) (s : Shared) (e : Value) (s' : Shared), CX w [] H s (fun _ _ _ => False) e s' → False) :
    PySem.W.WalkO q loose XP YP l.row.toRowW d [] (fun f vs => PySem.call f vs) := by
  refine Att.attach_call hn hdf fun w s₀ s₁ mg mb fa o pm cd doc a vs ns G Y ho hd hcd hmg hobj hints hlen hg => ?_
  have KX := hY w _ Y
  obtain ⟨fd, hb, hF⟩ := F w mg fa _ KX G.T.g hmg
  exact law_call KX G.T.g G.T.b G.T.builtins G.T.nolimit hg hobj hints (Nat.le_trans hlen hn2) hr hF hb (fun H hO hS => hsp w H a ns hlen hO hS) fun H e s' => hCX w H s₁ e s'
end L2

/- THE LAST THEOREM (shape; LID, My.* are yours):
   My.Adr: a structure of the addresses that your layer names (classes, functions); My.Txt K t: a structure (Prop) of the equations over K;
   My.txt_mk : {K} {implicit addresses ..} (e1 : nsIn K mainGlobals "law" = some (some (.ref f))) (e2 : K.lookup f = some ⟨oc, od, .func (fnOf "law" "law" params body scope dV kV doc pm an cdv ct), sl⟩) (e3 : codeIn K cdv "law" = true) .. : ∃ t, My.Txt K t

set_option maxRecDepth 100000 in
set_option maxHeartbeats 0 in
theorem PySem.Challenge.cw_LID_holds : PySem.Challenge.rw_LID.Holds := by
  w_on; o_law; k_head; (case hw => w_witness2)
  k_fill
  refine L2.walk_of (l := PySem.Challenge.rw_LID) (n := 63) (k := 40) (x := "script") (CX := fun w => ..) (sp := fun _ => My.sp_law) rfl (by decide) rfl ⟨rfl, by decide, by decide⟩ (fun w h Y => PySem.W.kIn_of Y) ?F ?S ?C
  case F =>
    intro w mg fa h KX G hmg
    have T : ∃ t, My.Txt (L2.KOf KX) t := by
      dsimp only [L2.KOf]                          -- K must stand as «<heap const> w.params» for k_is
      refine' My.txt_mk ?e1 ?e2 ?e3 ..
      (case e1 => PySem.W.k_is)                    -- in the order: a name -> its address -> its object -> its parts
      (case e2 => PySem.W.k_is)
      ..
    obtain ⟨t, T⟩ := T
    have e0 := hmg.symm.trans (PySem.W.mg_of KX G T.law)
    cases e0                                       -- fa is the law's own address
    exact ⟨_, fun s u => .of_eq rfl, fun base kb nb => My.law_fn T kb nb⟩     -- if «.of_eq rfl» comes too early: refine' ⟨_, ?b, fun base kb nb => My.law_fn T kb nb⟩; exact fun s u => .of_eq rfl
  case S => exact fun w H a ns hl hO hS => ..
  case C => exact ..
(the tactic k_is has no namespace: write k_is) -/

/-! SHORT WORDS over the layer: a def of the text, its body, what a loop and a test want. -/
namespace L2
open PySem PySem.Spec PyProof.Rows

/-! ### the text by places -/
/-- the j-th statement of a class's body -/
def inClass (s : Stmt) (j : Nat) : Stmt := match s with
  | .ClassDef _ _ _ body _ _ _ _ _ _ _ => body.getD j (.Pass ⟨0, 0, 0, 0⟩)
  | _ => .Pass ⟨0, 0, 0, 0⟩
def defArgs (s : Stmt) : Arguments := match s with
  | .FunctionDef _ a _ _ _ _ _ _ _ _ => a
  | _ => { posonlyargs := [], args := [], vararg := none, kwonlyargs := [], kw_defaults := [], kwarg := none, defaults := [] }
def defBody (s : Stmt) : List Stmt := match s with
  | .FunctionDef _ _ b _ _ _ _ _ _ _ => b
  | _ => []
def defScope (s : Stmt) : Scope := match s with
  | .FunctionDef _ _ _ _ _ _ sc _ _ _ => sc
  | _ => { kind := .function, names := [], isGenerator := false, isCoroutine := false }

/-! ### no exception leaves a def -/
abbrev CX0 : CXT := fun _ _ _ _ _ _ => False
abbrev E0 : XK := fun _ _ _ => False
theorem pass0 {X : Cx} : Passes CX0 X E0 := fun _ _ _ _ _ _ _ h => h.elim

/-! ### a def (or method) of the text as it stands behind the top -/
structure Fun (K : PySem.W.Frag) (x qual : Str) (st : Stmt) (f : Addr) (fd : FuncData) : Prop where
  ex : ∃ (oc : Value) (od : Option Addr) (kV doc pm : Value) (an : Option Addr) (cdv ct : Value) (osl : Array (Option Value)),
    fd = PySem.W.fnOf x qual (defArgs st) (defBody st) (defScope st) .none kV doc pm an cdv ct ∧ K.lookup f = some ⟨oc, od, .func fd, osl⟩ ∧ PySem.W.codeIn K cdv qual = true
  kp : PySem.W.keepIn K (.ref f) = true
section
variable {P : Program} {w : World} {K : PySem.W.Frag} {mg : Str → Option Value} {base : Heap}
/-- THE RULE for a def: its body as a term of rules, and the reading of that term -/
theorem Fun.ok {x qual : Str} {st : Stmt} {f : Addr} {fd : FuncData} {N ps : List Str} {k : Nat} {sp : Sp} (F : Fun K x qual st f fd) (S : FnScope N ps (defScope st)) (len : ∀ vs H Q E, sp vs H Q E → vs.length = ps.length)
    (hbody : ∀ (cdv : Value) (A : Around) (outer : List Env) (s : Shared) (H : Hp) (vs : List V) (Q : VK) (E : XK), Room k (A.deeper (envOfC qual (defScope st) s.heap.objs.size f cdv)) → sp vs H Q E →
      ∃ t, PSs (cxOf CX0 P w K mg base N qual (defScope st) f cdv A outer s H E).nox (defBody st) t ∧ t { nx := fun _ H' => Q .non H', rt := Q } (start N vs) H) : FnOk P w K mg base CX0 (k + 1) f fd ps sp := by
  obtain ⟨oc, od, kV, doc, pm, an, cdv, ct, osl, rfl, lk, hcd⟩ := F.ex
  refine fn_of lk hcd S len fun A outer s H vs Q E hr hsp => ?_
  obtain ⟨t, h, q⟩ := hbody cdv A outer s H vs Q E hr hsp
  exact ⟨t, h.nox, q⟩
/-- how its arguments bind (no defaults): h is «fun _ _ _ _ _ _ us hl => match us, hl with | [_, _], _ => rfl», one _ a parameter -/
theorem Fun.binds {x qual : Str} {st : Stmt} {f : Addr} {fd : FuncData} {ps : List Str} (F : Fun K x qual st f fd)
    (h : ∀ (kV doc pm : Value) (an : Option Addr) (cdv ct : Value) (us : List Value), us.length = ps.length → bindArgs (PySem.W.fnOf x qual (defArgs st) (defBody st) (defScope st) .none kV doc pm an cdv ct) ⟨us, []⟩ = pure (ps.zip us)) : Binds K fd ps [] := by
  obtain ⟨oc, od, kV, doc, pm, an, cdv, ct, osl, rfl, lk, hcd⟩ := F.ex
  exact .all (h kV doc pm an cdv ct)
theorem fun_mk {x qual : Str} {st : Stmt} {f : Addr} {oc : Value} {od an : Option Addr} {osl : Array (Option Value)} {kV doc pm cdv ct : Value} (l : K.lookup f = some ⟨oc, od, .func (PySem.W.fnOf x qual (defArgs st) (defBody st) (defScope st) .none kV doc pm an cdv ct), osl⟩)
    (c : PySem.W.codeIn K cdv qual = true) (k : PySem.W.keepIn K (.ref f) = true) : Fun K x qual st f (PySem.W.fnOf x qual (defArgs st) (defBody st) (defScope st) .none kV doc pm an cdv ct) := ⟨⟨oc, od, kV, doc, pm, an, cdv, ct, osl, rfl, l, c⟩, k⟩
end
/-! ### expressions in short: the name that stands in the i-th slot -/
section
variable {X : Cx}
theorem pv (i : Nat) {x : Str} {pos : Pos} (hN : X.N[i]? = some x := by rfl) (hv : Vis X.env.scope x := by first | exact Or.inl rfl | exact Or.inr (Or.inl rfl) | exact Or.inr (Or.inr rfl)) (hd : (x == ("__debug__" : Str)) = false := by decide)
    (hcd : (x == ("__classdict__" : Str)) = false := by decide) : PE X (.Name x pos) (tVar i) := pe_var hN hv hd hcd
end

/-! ### tests -/
theorem iteF {A B : Prop} (h : B) : if false = true then A else B := by
  rw [if_neg Bool.false_ne_true]
  exact h
theorem iteT {A B : Prop} (h : A) : if true = true then A else B := by
  rw [if_pos rfl]
  exact h
/-! ### heaps -/
/-- all that was tracked is as it was -/
def Same (H H' : Hp) : Prop := ∀ b o, H b = some o → H' b = some o
theorem Same.refl (H : Hp) : Same H H := fun _ _ h => h
theorem Same.trans {H H1 H2 : Hp} (a : Same H H1) (b : Same H1 H2) : Same H H2 := fun c o h => b c o (a c o h)
theorem Same.free {H H' : Hp} (e : Same H H') {l : Addr} (h : H' l = Option.none) : H l = Option.none := by
  cases q : H l with
  | none => rfl
  | some o =>
    rw [e l o q] at h
    cases h
theorem Same.seq {K : PySem.W.Frag} {H H' : Hp} {a : Addr} {xs : List V} (e : Same H H') (h : SqL K H a xs) : SqL K H' a xs := by
  rcases h with (h | ⟨o, h⟩) | h
  · exact .inl (.inl (e _ _ h))
  · exact .inl (.inr ⟨o, e _ _ h⟩)
  · exact .inr h

end L2

set_option Elab.async false
set_option linter.all false
set_option maxRecDepth 100000
namespace L2
open PySem PySem.Spec PyProof.Rows

/-! ### what a value stands for, read off the abstract heap; equality at any depth -/
def PdAt (K : PySem.W.Frag) (H : Hp) : Nat → PyData → V → Prop
  | 0, d, v => match d with
    | .none => v = .non
    | .bool b => v = .bl b
    | .int i => v = .int i
    | .str x => v = .str x ∧ PyData.strOk x = true
    | _ => False
  | n + 1, d, v => match d with
    | .none => v = .non
    | .bool b => v = .bl b
    | .int i => v = .int i
    | .str x => v = .str x ∧ PyData.strOk x = true
    | .list ds => ∃ a xs, v = .ref a ∧ SqL K H a xs ∧ Paired (PdAt K H n) ds xs
    | .tuple ds => ∃ a xs, v = .ref a ∧ SqT K H a xs ∧ Paired (PdAt K H n) ds xs
    | .dict _ => False
section
variable {X : Cx} {pins : List (Addr × Obj)} {σ : St} {H : Hp} {s : Shared}
theorem pd_reads (I : Inv X pins σ H s) : ∀ (n : Nat) (d : PyData) (v : V) (u : Value), PdAt X.K H n d v → RelV v u → ∃ as, Reads s.heap u d as := by
  intro n
  induction n with
  | zero =>
    intro d v u h r
    cases d with
    | none => cases (show v = .non from h); cases (show u = Value.none from r); exact ⟨_, Reads.none⟩
    | bool b => cases (show v = .bl b from h); cases (show u = Value.bool b from r); exact ⟨_, Reads.bool b⟩
    | int i => cases (show v = .int i from h); obtain ⟨t, rfl⟩ := (show ∃ t, u = Value.int i t from r); exact ⟨_, Reads.int i t⟩
    | str x => cases (show v = .str x ∧ _ from h).1; obtain ⟨t, rfl⟩ := (show ∃ t, u = Value.str x t from r); exact ⟨_, Reads.str x t⟩
    | list _ => exact (show False from h).elim
    | tuple _ => exact (show False from h).elim
    | dict _ => exact (show False from h).elim
  | succ n ih =>
    have all : ∀ (ds : List PyData) (xs : List V) (us : List Value), Paired (PdAt X.K H n) ds xs → Vals xs us → ∃ as, ReadsAll s.heap us ds as := by
      intro ds xs us p
      induction p generalizing us with
      | nil => intro r; cases r; exact ⟨_, ReadsAll.nil⟩
      | cons q _ hi =>
        intro r
        cases r with
        | cons r1 rr =>
          obtain ⟨as, h1⟩ := ih _ _ _ q r1
          obtain ⟨bs, h2⟩ := hi _ rr
          exact ⟨_, ReadsAll.cons h1 h2⟩
    intro d v u h r
    cases d with
    | none => cases (show v = .non from h); cases (show u = Value.none from r); exact ⟨_, Reads.none⟩
    | bool b => cases (show v = .bl b from h); cases (show u = Value.bool b from r); exact ⟨_, Reads.bool b⟩
    | int i => cases (show v = .int i from h); obtain ⟨t, rfl⟩ := (show ∃ t, u = Value.int i t from r); exact ⟨_, Reads.int i t⟩
    | str x => cases (show v = .str x ∧ _ from h).1; obtain ⟨t, rfl⟩ := (show ∃ t, u = Value.str x t from r); exact ⟨_, Reads.str x t⟩
    | list ds =>
      obtain ⟨a, xs, rfl, hq, hp⟩ := (show ∃ a xs, v = .ref a ∧ SqL X.K H a xs ∧ Paired (PdAt X.K H n) ds xs from h)
      cases (show u = Value.ref a from r)
      obtain ⟨its, rv, pl, hz⟩ := I.list hq
      obtain ⟨as, ra⟩ := all _ _ _ hp rv
      obtain ⟨o, ho, hc, k, hd⟩ := pl.isList
      exact ⟨_, reads_list_at ho hc hd (by simpa using ra)⟩
    | tuple ds =>
      obtain ⟨a, xs, rfl, hq, hp⟩ := (show ∃ a xs, v = .ref a ∧ SqT X.K H a xs ∧ Paired (PdAt X.K H n) ds xs from h)
      cases (show u = Value.ref a from r)
      obtain ⟨its, rv, pl, hz⟩ := I.tuple hq
      obtain ⟨as, ra⟩ := all _ _ _ hp rv
      obtain ⟨o, ho, hc, k, hd⟩ := (show s.heap.IsTuple a its.toArray from pl)
      exact ⟨_, reads_tuple_at ho hc hd (by simpa using ra)⟩
    | dict _ => exact (show False from h).elim
end
theorem pd_shape {K : PySem.W.Frag} {H : Hp} : ∀ (n : Nat) (d : PyData) (v : V), PdAt K H n d v → d.canLay0 = true ∧ d.depth ≤ n := by
  intro n
  induction n with
  | zero =>
    intro d v h
    cases d with
    | str x => simp [PyData.canLay0, PyData.depth, (show v = .str x ∧ PyData.strOk x = true from h).2]
    | list _ => exact (show False from h).elim
    | tuple _ => exact (show False from h).elim
    | dict _ => exact (show False from h).elim
    | _ => simp [PyData.canLay0, PyData.depth]
  | succ n ih =>
    have all : ∀ (ds : List PyData) (xs : List V), Paired (PdAt K H n) ds xs → PyData.canLayAll0 ds = true ∧ PyData.depthAll ds ≤ n := by
      intro ds xs p
      induction p with
      | nil => simp [PyData.canLayAll0, PyData.depthAll]
      | cons q _ hi =>
        have h1 := ih _ _ q
        simp only [PyData.canLayAll0, PyData.depthAll, h1.1, hi.1, Bool.and_self, true_and]
        have a1 := h1.2
        have a2 := hi.2
        omega
    intro d v h
    cases d with
    | str x => simp [PyData.canLay0, PyData.depth, (show v = .str x ∧ PyData.strOk x = true from h).2]
    | list ds =>
      obtain ⟨a, xs, rfl, hq, hp⟩ := (show ∃ a xs, v = .ref a ∧ SqL K H a xs ∧ Paired (PdAt K H n) ds xs from h)
      have q := all _ _ hp
      have q2 := q.2
      simp only [PyData.canLay0, PyData.depth, q.1, true_and]
      omega
    | tuple ds =>
      obtain ⟨a, xs, rfl, hq, hp⟩ := (show ∃ a xs, v = .ref a ∧ SqT K H a xs ∧ Paired (PdAt K H n) ds xs from h)
      have q := all _ _ hp
      have q2 := q.2
      simp only [PyData.canLay0, PyData.depth, q.1, true_and]
      omega
    | dict _ => exact (show False from h).elim
    | _ => simp [PyData.canLay0, PyData.depth]
def rEqP (K : PySem.W.Frag) : R2 := fun x y H Q => ∃ d e, PdAt K H 9 d x ∧ PdAt K H 9 e y ∧ Q (.bl (PyData.eqv d e)) H
def rNeP (K : PySem.W.Frag) : R2 := fun x y H Q => ∃ d e, PdAt K H 9 d x ∧ PdAt K H 9 e y ∧ Q (.bl (!PyData.eqv d e)) H
section
variable {X : Cx}
theorem pd_shaped {K : PySem.W.Frag} {H : Hp} {d : PyData} {v : V} (h : PdAt K H 9 d v) : SeqAt.shaped d = true := by
  have q := pd_shape 9 d v h
  unfold SeqAt.shaped
  rw [q.1, Bool.true_and]
  exact decide_eq_true (Nat.le_trans q.2 (by decide))
theorem op_eqP (hu : X.A.units + 64 < cLine) : OpR X (compareOp .Eq) (rEqP X.K) := by
  intro pins s σ H x y v u Q I rx ry h
  obtain ⟨d, e, hd, he, q⟩ := h
  obtain ⟨as, ra⟩ := pd_reads I 9 d x v hd rx
  obtain ⟨bs, rb⟩ := pd_reads I 9 e y u he ry
  exact eq_dataH ra rb (pd_shaped hd) (pd_shaped he) hu ⟨.bl _, H, I, rfl, q⟩
theorem op_neP (hu : X.A.units + 64 < cLine) : OpR X (compareOp .NotEq) (rNeP X.K) := by
  intro pins s σ H x y v u Q I rx ry h
  obtain ⟨d, e, hd, he, q⟩ := h
  obtain ⟨as, ra⟩ := pd_reads I 9 d x v hd rx
  obtain ⟨bs, rb⟩ := pd_reads I 9 e y u he ry
  exact ne_dataH ra rb (pd_shaped hd) (pd_shaped he) hu ⟨.bl _, H, I, rfl, q⟩
end
abbrev iL (ns : List Int) : List V := ns.map V.int
abbrev pL (ns : List Int) : PyData := .list (ns.map PyData.int)
theorem eqvAll_ints : ∀ (xs ys : List Int), PyData.eqvAll (xs.map PyData.int) (ys.map PyData.int) = decide (xs = ys)
  | [], [] => by simp [PyData.eqvAll]
  | [], y :: ys => by simp [PyData.eqvAll]
  | x :: xs, [] => by simp [PyData.eqvAll]
  | x :: xs, y :: ys => by
    simp only [List.map_cons, PyData.eqvAll, PyData.eqv, eqvAll_ints xs ys, List.cons.injEq]
    by_cases h1 : x = y <;> by_cases h2 : xs = ys <;> simp [h1, h2]
theorem eqv_pints (xs ys : List Int) : PyData.eqv (pL xs) (pL ys) = decide (xs = ys) := by
  show PyData.eqvAll _ _ = _
  exact eqvAll_ints xs ys
theorem paired_ints {K : PySem.W.Frag} {H : Hp} {n : Nat} : ∀ ns : List Int, Paired (PdAt K H n) (ns.map PyData.int) (iL ns)
  | [] => .nil
  | i :: ns => .cons (by cases n <;> exact (rfl : V.int i = V.int i)) (paired_ints ns)
theorem pd_ints {K : PySem.W.Frag} {H : Hp} {n : Nat} {a : Addr} {ns : List Int} (h : SqL K H a (iL ns)) : PdAt K H (n + 1) (pL ns) (.ref a) := ⟨a, iL ns, rfl, h, paired_ints ns⟩
theorem pd_int {K : PySem.W.Frag} {H : Hp} {n : Nat} {i : Int} : PdAt K H n (.int i) (.int i) := by cases n <;> exact (rfl : V.int i = V.int i)
/-! ### intro rules -/
section
variable {K : PySem.W.Frag} {σ : St} {H : Hp} {Q : VK}
theorem i_var {i : Nat} {v : V} (h : σ[i]? = some (some v)) (q : Q v H) : tVar i σ H Q := ⟨v, h, q⟩
theorem i_I0 {g : Int → Int → V} {i j : Int} (q : Q (g i j) H) : rI0 g (.int i) (.int j) H Q := ⟨i, j, rfl, rfl, q⟩
theorem i_U {g : Int → V} {i : Int} (q : Q (g i) H) : rU g (.int i) H Q := ⟨i, rfl, q⟩
theorem beq_dec (i j : Int) : (i == j) = decide (i = j) := by
  by_cases h : i = j <;> simp [h]
theorem i_eqI {i j : Int} (q : Q (.bl (decide (i = j))) H) : rEqP K (.int i) (.int j) H Q := ⟨_, _, pd_int, pd_int, by rw [← beq_dec] at q; simpa [PyData.eqv] using q⟩
theorem i_neI {i j : Int} (q : Q (.bl (!decide (i = j))) H) : rNeP K (.int i) (.int j) H Q := ⟨_, _, pd_int, pd_int, by rw [← beq_dec] at q; simpa [PyData.eqv] using q⟩
theorem i_eqL {a b : Addr} {xs ys : List Int} (ha : SqL K H a (iL xs)) (hb : SqL K H b (iL ys)) (q : Q (.bl (decide (xs = ys))) H) : rEqP K (.ref a) (.ref b) H Q := ⟨_, _, pd_ints ha, pd_ints hb, by rw [eqv_pints]; exact q⟩
end

/-! ### + and * of more kinds, an item -/
def rAddP : R2 := fun x y H Q => rI0 (fun i j => .int (i + j)) x y H Q ∨ rCat x y H Q
def rIxP (K : PySem.W.Frag) : R2 := fun x y H Q => rIxL K x y H Q ∨ rIxT K x y H Q
def rMulP : R2 := fun x y H Q => rI CMul (fun i j => .int (i * j)) x y H Q ∨ rRep x y H Q
section
variable {X : Cx}
theorem op_addP : OpR X (binaryOp .Add) rAddP := op_add.or op_cat
theorem op_mulP : OpR X (binaryOp .Mult) rMulP := op_mul.or op_rep
theorem ix_P : IxR X (rIxP X.K) := ix_list.or ix_tup
end
section
variable {K : PySem.W.Frag} {σ : St} {H : Hp} {Q : VK}
theorem i_addI {i j : Int} (q : Q (.int (i + j)) H) : rAddP (.int i) (.int j) H Q := .inl ⟨i, j, rfl, rfl, q⟩
theorem i_addL {a b : Addr} {xs ys : List V} (ha : H a = some (.lst xs)) (hb : H b = some (.lst ys)) (hl : xs.length + ys.length ≤ sizeLine) (q : ∀ p, H p = none → Q (.ref p) (upd H p (.lst (xs ++ ys)))) : rAddP (.ref a) (.ref b) H Q := .inr ⟨a, b, xs, ys, rfl, rfl, ha, hb, hl, q⟩
theorem i_mulI {i j : Int} (c : CMul i j) (q : Q (.int (i * j)) H) : rMulP (.int i) (.int j) H Q := .inl ⟨i, j, rfl, rfl, c, q⟩
theorem atI_ints {ns : List Int} {i : Int} (h0 : 0 ≤ i) (h1 : i < ns.length) : ∃ v, atI (iL ns) i = some (.int v) ∧ ns[i.toNat]? = some v ∧ v ∈ ns := by
  have hl : i.toNat < ns.length := by omega
  refine ⟨ns[i.toNat], ?_, by simp [hl], List.getElem_mem hl⟩
  have := atI_nat (xs := iL ns) (j := i.toNat) (v := .int ns[i.toNat]) (by simp [iL, hl])
  rwa [Int.toNat_of_nonneg h0] at this
/-- an item of a list of iL, in bounds -/
theorem i_ixL {p : Addr} {ns : List Int} {i : Int} (h : SqL K H p (iL ns)) (h0 : 0 ≤ i) (h1 : i < ns.length) (q : ∀ v, ns[i.toNat]? = some v → v ∈ ns → Q (.int v) H) : rIxP K (.ref p) (.int i) H Q := by
  obtain ⟨v, e1, e2, e3⟩ := atI_ints h0 h1
  exact .inl ⟨p, _, i, _, rfl, rfl, h, e1, q v e2 e3⟩
/-- an item of any list, at a place from the front -/
theorem i_ixN {p : Addr} {xs : List V} {i : Int} {v : V} (h : SqL K H p xs) (h0 : 0 ≤ i) (e : xs[i.toNat]? = some v) (q : Q v H) : rIxP K (.ref p) (.int i) H Q := by
  have := atI_nat (xs := xs) (j := i.toNat) (v := v) e
  rw [Int.toNat_of_nonneg h0] at this
  exact .inl ⟨p, _, i, _, rfl, rfl, h, this, q⟩
theorem i_ixT {p : Addr} {xs : List V} {i : Int} {v : V} (h : SqT K H p xs) (h0 : 0 ≤ i) (e : xs[i.toNat]? = some v) (q : Q v H) : rIxP K (.ref p) (.int i) H Q := by
  have := atI_nat (xs := xs) (j := i.toNat) (v := v) e
  rw [Int.toNat_of_nonneg h0] at this
  exact .inr ⟨p, _, i, _, rfl, rfl, h, this, q⟩
end

/-! ### calls of the text's own defs -/
def Callee (P : Program) (w : World) (K : PySem.W.Frag) (mg : Str → Option Value) (base : Heap) (x : Str) (k : Nat) (sp : Sp) : Prop :=
  ∃ f fd ps, FnOk P w K mg base CX0 k f fd ps sp ∧ mg x = some (.ref f) ∧ PySem.W.keepIn K (.ref f) = true ∧ Binds K fd ps []
def Def (K : PySem.W.Frag) (mg : Str → Option Value) (x : Str) (st : Stmt) : Prop := ∃ f fd, Fun K x x st f fd ∧ mg x = some (.ref f)
section
variable {X : Cx} {x : Str} {k : Nat} {sp : Sp} {e : Expr} {es : List Expr} {t : TA} {p pos : Pos}
theorem pe_callN (C : Callee X.prog X.w X.K X.mg X.base x k sp) (hr : Room k X.A) (hg : Gl X x) (ha : PA X (e :: es) t)
    (he : starEach (e :: es) X.env = (false, eval e X.env) :: starEach es X.env := by rfl) (hpl : (backTo pos (starEach es X.env)).any (·.1) = false := by rfl)
    (hdb : (x == ("__debug__" : Str)) = false := by decide) : PE X (.Call (.Name x p) (e :: es) [] pos) (tCall sp [] E0 t) := by
  obtain ⟨f, fd, ps, F, hm, hk, hb⟩ := C
  exact pe_call F hr hg hm hk hb .nil pass0 ha (hdb := hdb) (he := he) (hpl := hpl)
def rTru (K : PySem.W.Frag) (x : V) (H : Hp) (Q : Bool → Hp → Prop) : Prop := ∃ k, TruV K x H k ∧ Q k H
def tTru (K : PySem.W.Frag) (ta : TE) : TT := fun σ H Q => ta σ H fun x H' => rTru K x H' Q
theorem pt_truthN {a : Expr} {ta : TE} (ha : PE X a ta) (he : ∀ whole, isTrue a X.env whole = (do let v ← whole; standAt a.pos; holding [v] (truthy v))) :
    PT X a (tTru X.K ta) := pt_truth ha he
end
theorem Def.ok {P : Program} {w : World} {K : PySem.W.Frag} {mg : Str → Option Value} {base : Heap} {x : Str} {st : Stmt} {N ps : List Str} {k : Nat} {sp : Sp} (D : Def K mg x st) (S : FnScope N ps (defScope st))
    (bd : ∀ (kV doc pm : Value) (an : Option Addr) (cdv ct : Value) (us : List Value), us.length = ps.length → bindArgs (PySem.W.fnOf x x (defArgs st) (defBody st) (defScope st) .none kV doc pm an cdv ct) ⟨us, []⟩ = pure (ps.zip us))
    (len : ∀ vs H Q E, sp vs H Q E → vs.length = ps.length)
    (hbody : ∀ (f : Addr) (cdv : Value) (A : Around) (outer : List Env) (s : Shared) (H : Hp) (vs : List V) (Q : VK) (E : XK), Room k (A.deeper (envOfC x (defScope st) s.heap.objs.size f cdv)) → sp vs H Q E →
      ∃ t, PSs (cxOf CX0 P w K mg base N x (defScope st) f cdv A outer s H E).nox (defBody st) t ∧ t { nx := fun _ H' => Q .non H', rt := Q } (start N vs) H) : Callee P w K mg base x (k + 1) sp := by
  obtain ⟨f, fd, F, hm⟩ := D
  exact ⟨f, fd, ps, F.ok S len fun cdv A outer s H vs Q E hr h => hbody f cdv A outer s H vs Q E hr h, hm, F.kp, F.binds bd⟩

/-! ### built-ins -/
def rLen (K : PySem.W.Frag) : List V → Hp → VK → Prop := fun xs H Q => ∃ x n, xs = [x] ∧ LenV K x H n ∧ Q (.int n) H
def rIsi (K : PySem.W.Frag) : List V → Hp → VK → Prop := fun xs H Q => ∃ x t n b, xs = [x, .ty n] ∧ TyOf K H x t ∧ PySem.W.kitOne K t (.type n) = some b ∧ Q (.bl b) H
def rIntOf : List V → Hp → VK → Prop := fun xs H Q => (∃ i, xs = [.int i] ∧ Q (.int i) H) ∨ ∃ k, xs = [.bl k] ∧ Q (.int (if k then 1 else 0)) H
def rAbs : List V → Hp → VK → Prop := fun xs H Q => ∃ i, xs = [.int i] ∧ Q (.int (if i < 0 then -i else i)) H
def rListOf (K : PySem.W.Frag) : List V → Hp → VK → Prop := fun xs H Q => ∃ p ys, xs = [.ref p] ∧ (SqL K H p ys ∨ SqT K H p ys) ∧ ∀ l, H l = none → Q (.ref l) (upd H l (.lst ys))
section
variable {X : Cx}
theorem call_lenN : CallR X (.builtin "len") (rLen X.K) := call_len
theorem call_intN : CallR X (.type "int") rIntOf := call_int1
theorem call_absN : CallR X (.builtin "abs") rAbs := call_abs
end
section
variable {K : PySem.W.Frag} {σ : St} {H : Hp} {Q : VK}
theorem i_len {p : Addr} {xs : List V} (h : SqL K H p xs) (q : Q (.int xs.length) H) : rLen K [.ref p] H Q := ⟨_, _, rfl, .inl ⟨xs, h, rfl⟩, q⟩
theorem i_lenI {p : Addr} {ns : List Int} (h : SqL K H p (iL ns)) (q : Q (.int ns.length) H) : rLen K [.ref p] H Q := ⟨_, _, rfl, .inl ⟨_, h, rfl⟩, by simpa [iL] using q⟩
theorem i_intB {k : Bool} (q : Q (.int (if k then 1 else 0)) H) : rIntOf [.bl k] H Q := .inr ⟨k, rfl, q⟩
theorem i_abs {i : Int} (q : Q (.int (if i < 0 then -i else i)) H) : rAbs [.int i] H Q := ⟨i, rfl, q⟩
theorem isi_ii : PySem.W.kitOne K (.type "int") (.type "int") = some true := by kernel_rfl
theorem isi_ib : PySem.W.kitOne K (.type "int") (.type "bool") = some false := by kernel_rfl
theorem isi_ll : PySem.W.kitOne K (.type "list") (.type "list") = some true := by kernel_rfl
theorem isi_il : PySem.W.kitOne K (.type "int") (.type "list") = some false := by kernel_rfl
theorem isi_id : PySem.W.kitOne K (.type "int") (.type "dict") = some false := by kernel_rfl
theorem isi_it : PySem.W.kitOne K (.type "int") (.type "tuple") = some false := by kernel_rfl
theorem isi_bb : PySem.W.kitOne K (.type "bool") (.type "bool") = some true := by kernel_rfl
theorem i_isiII {i : Int} (q : Q (.bl true) H) : rIsi K [.int i, .ty "int"] H Q := ⟨_, _, _, true, rfl, .int i, isi_ii, q⟩
theorem i_isiIB {i : Int} (q : Q (.bl false) H) : rIsi K [.int i, .ty "bool"] H Q := ⟨_, _, _, false, rfl, .int i, isi_ib, q⟩
theorem i_isiIL {i : Int} (q : Q (.bl false) H) : rIsi K [.int i, .ty "list"] H Q := ⟨_, _, _, false, rfl, .int i, isi_il, q⟩
theorem i_isiID {i : Int} (q : Q (.bl false) H) : rIsi K [.int i, .ty "dict"] H Q := ⟨_, _, _, false, rfl, .int i, isi_id, q⟩
theorem i_isiIT {i : Int} (q : Q (.bl false) H) : rIsi K [.int i, .ty "tuple"] H Q := ⟨_, _, _, false, rfl, .int i, isi_it, q⟩
theorem i_isiBB {b : Bool} (q : Q (.bl true) H) : rIsi K [.bl b, .ty "bool"] H Q := ⟨_, _, _, true, rfl, .bl b, isi_bb, q⟩
end

/-! ### tests, sizes -/
theorem i_if {p : Prop} [Decidable p] {A B : Prop} (h1 : p → A) (h2 : ¬ p → B) : if decide p = true then A else B := by
  by_cases h : p
  · rw [decide_eq_true h]; exact iteT (h1 h)
  · rw [decide_eq_false h]; exact iteF (h2 h)
theorem i_ifn {p : Prop} [Decidable p] {A B : Prop} (h1 : ¬ p → A) (h2 : p → B) : if (!decide p) = true then A else B := by
  by_cases h : p
  · rw [decide_eq_true h]; exact iteF (h2 h)
  · rw [decide_eq_false h]; exact iteT (h1 h)
theorem iteNT {A B : Prop} (h : B) : if (!true) = true then A else B := iteF h
theorem iteNF {A B : Prop} (h : A) : if (!false) = true then A else B := iteT h
theorem szl {n : Nat} (h : n ≤ 100000) : n ≤ sizeLine := Nat.le_trans h (by rw [sizeLine_eq]; decide)
theorem szlt {n : Nat} (h : n ≤ 100000) : n < sizeLine := Nat.lt_of_le_of_lt h (by rw [sizeLine_eq]; decide)
theorem same_upd {H : Hp} {l : Addr} {o : HO} (h : H l = none) : Same H (upd H l o) := fun b u e => by rw [upd_ne (ne_of_none e h)]; exact e
/-- all but one address as it was -/
def SameBut (l : Addr) (H H' : Hp) : Prop := ∀ b o, b ≠ l → H b = some o → H' b = some o
theorem cmul_l {i j : Int} (h1 : -(2 ^ 64) < i) (h2 : i < 2 ^ 64) : CMul i j := .inl ⟨h1, h2⟩
theorem cmul_r {i j : Int} (h1 : -(2 ^ 64) < j) (h2 : j < 2 ^ 64) : CMul i j := .inr ⟨h1, h2⟩
end L2

namespace L2
open PySem PySem.Spec PyProof.Rows
theorem bt_int : bootBuiltins "int" = some (.type "int") := by first | exact PySem.boot_int | exact PySem.Pv.boot_int | exact PyProof.Rows.boot_int
theorem bt_list : bootBuiltins "list" = some (.type "list") := by first | exact PySem.boot_list | exact PySem.Pv.boot_list | exact PyProof.Rows.boot_list
theorem bt_min : bootBuiltins "min" = some (.builtin "min") := by first | exact PySem.boot_min | exact PySem.Pv.boot_min | exact PyProof.Rows.boot_min
theorem bt_sum : bootBuiltins "sum" = some (.builtin "sum") := by first | exact PySem.boot_sum | exact PySem.Pv.boot_sum | exact PyProof.Rows.boot_sum
theorem bt_sorted : bootBuiltins "sorted" = some (.builtin "sorted") := by first | exact PySem.boot_sorted | exact PySem.Pv.boot_sorted | exact PyProof.Rows.boot_sorted
theorem bt_abs : bootBuiltins "abs" = some (.builtin "abs") := by first | exact PySem.boot_abs | exact PySem.Pv.boot_abs | exact PyProof.Rows.boot_abs
theorem bt_len : bootBuiltins "len" = some (.builtin "len") := by first | exact PySem.boot_len | exact PySem.Pv.boot_len | exact PyProof.Rows.boot_len
section
variable {X : Cx} {pos p1 p2 : Pos} {k1 k2 : Nat}
theorem pe_powK {i j r : Int} (h : 0 ≤ j ∧ j ≤ 1000000 ∧ i.natAbs < 2 ^ 64 ∧ i ^ j.toNat = r) : PE X (.BinOp (.Constant (.int i) k1 p1) .Pow (.Constant (.int j) k2 p2) pos) (tC (.int r)) := by
  intro pins s σ H Q I q
  refine pe_op op_pow pe_int pe_int pins s σ H Q I ?_
  exact ⟨i, j, rfl, rfl, ⟨h.1, h.2.1, h.2.2.1⟩, by have e := h.2.2.2; subst e; exact q⟩
theorem pe_negK {i r : Int} (h : -i = r) : PE X (.UnaryOp .USub (.Constant (.int i) k1 p1) pos) (tC (.int r)) := by
  intro pins s σ H Q I q
  refine pe_un un_neg pe_int pins s σ H Q I ?_
  exact ⟨i, rfl, by subst h; exact q⟩
end
section
variable {K : PySem.W.Frag} {σ : St} {H : Hp} {Q : VK} {i j : Int}
theorem i_div (h0 : 0 < j) (h1 : j < 1073741824) (q : Q (.int (i / j)) H) : rI CDiv (fun i j => .int (i / j)) (.int i) (.int j) H Q := ⟨i, j, rfl, rfl, ⟨h0, h1⟩, q⟩
theorem i_mod (h0 : 0 < j) (q : Q (.int (i % j)) H) : rI (fun _ j => 0 < j) (fun i j => .int (i % j)) (.int i) (.int j) H Q := ⟨i, j, rfl, rfl, h0, q⟩
theorem i_app {l : Addr} {xs : List V} {y : V} (h : H l = some (.lst xs)) (hl : xs.length < sizeLine) (q : Q .non (upd H l (.lst (xs ++ [y])))) : rAppend (.ref l) [y] H Q := ⟨l, xs, y, rfl, rfl, h, hl, q⟩
end
end L2

namespace L2
open PySem PySem.Spec PyProof.Rows
/-! ### loops, kept folded -/
def LoopI (J : It) (g : TG) (tb : TS) (D : Ends) (σ : St) (H1 : Hp) : Prop := ∃ W : Nat → Nat → St → Hp → Prop, (∃ m, W 0 m σ H1) ∧ ∀ i m σ H, W i m σ H →
  (J.stop i H ∧ D.nx σ H) ∨ (J.go i H ∧ ∃ N : St → Hp → Prop, (∀ σ' H', N σ' H' → ∃ m', m' < m ∧ W (i + 1) m' σ' H') ∧ ∀ x H', J.yld i H x H' → g x σ H' fun σ2 H2 => tb { D with nx := N, ct := N, bk := D.nx } σ2 H2)
theorem tFor_eq (wi : TI) (g : TG) (tb : TS) : tFor wi g tb = fun D σ H => wi σ H fun J H1 => LoopI J g tb D σ H1 := rfl
theorem lp_list {K : PySem.W.Frag} {a : Addr} {xs : List V} {g : TG} {tb : TS} {D : Ends} {σ : St} {H : Hp} (Pv : Nat → St → Hp → Prop) (h0 : Pv 0 σ H) (hl : ∀ i σ H, i ≤ xs.length → Pv i σ H → SqL K H a xs)
    (hs : ∀ i x σ H, xs[i]? = some x → Pv i σ H → g x σ H fun σ2 H2 => tb { D with nx := Pv (i + 1), ct := Pv (i + 1), bk := D.nx } σ2 H2) (hd : ∀ σ H, Pv xs.length σ H → D.nx σ H) : LoopI (Itl K a) g tb D σ H := for_list Pv h0 hl hs hd
theorem lp_ints {K : PySem.W.Frag} {a : Addr} {ns : List Int} {g : TG} {tb : TS} {D : Ends} {σ : St} {H : Hp} (Pv : Nat → St → Hp → Prop) (h0 : Pv 0 σ H) (hl : ∀ i σ H, i ≤ ns.length → Pv i σ H → SqL K H a (iL ns))
    (hs : ∀ i x σ H, ns[i]? = some x → Pv i σ H → g (.int x) σ H fun σ2 H2 => tb { D with nx := Pv (i + 1), ct := Pv (i + 1), bk := D.nx } σ2 H2) (hd : ∀ σ H, Pv ns.length σ H → D.nx σ H) : LoopI (Itl K a) g tb D σ H := by
  have e : (iL ns).length = ns.length := by simp [iL]
  refine for_list (xs := iL ns) Pv h0 (fun i σ H h p => hl i σ H (by rw [e] at h; exact h) p) (fun i x σ H hx p => ?_) (fun σ H p => hd σ H (by rw [e] at p; exact p))
  rw [List.getElem?_map] at hx
  cases q : ns[i]? with
  | none => rw [q] at hx; cases hx
  | some z =>
    rw [q] at hx
    cases hx
    exact hs i z σ H q p
theorem lp_range {lo : Int} {n : Nat} {g : TG} {tb : TS} {D : Ends} {σ : St} {H : Hp} (Pv : Nat → St → Hp → Prop) (h0 : Pv 0 σ H)
    (hs : ∀ i σ H, i < n → Pv i σ H → g (.int (lo + i)) σ H fun σ2 H2 => tb { D with nx := Pv (i + 1), ct := Pv (i + 1), bk := D.nx } σ2 H2) (hd : ∀ σ H, Pv n σ H → D.nx σ H) : LoopI (Itr lo n) g tb D σ H := for_range Pv h0 hs hd
theorem i_truB {K : PySem.W.Frag} {b : Bool} {H : Hp} {Q : Bool → Hp → Prop} (q : Q b H) : rTru K (.bl b) H Q := ⟨b, rfl, q⟩
end L2

namespace L2
open PySem PySem.Spec PyProof.Rows
/-! ### [a, b, ..][i]: the list is not tracked -/
def rMenu (xs : List V) (y : V) (H : Hp) (Q : VK) : Prop := ∃ i v, y = .int i ∧ atI xs i = some v ∧ Q v H
def tMenu (t : TA) (ti : TE) : TE := fun σ H Q => t σ H fun xs H1 => xs.length ≤ sizeLine ∧ ti σ H1 fun y H2 => rMenu xs y H2 Q
section
variable {X : Cx} {es : List Expr} {b : Expr} {t : TA} {tb : TE} {p1 pos : Pos}
theorem item_raw {X : Cx} {value slice : Expr} {pins : List (Addr × Obj)} {s : Shared} {σ : St} {H : Hp} {p : Addr} {its : List Value} {xs : List V} {i : Int} {tk : Tok} {z : V} {Q : VK} (I : Inv X pins σ H s) (r : Vals xs its) (hz : xs.length ≤ sizeLine)
    (pl : s.heap.IsList p its.toArray) (he : atI xs i = some z) (q : Q z H) (hs : subscripted slice false (.ref p) (.int i tk) = operate [.ref p, .int i tk] (getItem (.ref p) (.int i tk))) :
    wpAny (model X.prog X.w) X.A (subscriptTail value slice (.ref p) (.int i tk)) (EP X pins σ Q) X.xe s := by
  obtain ⟨j, h1, h2, h3, h4, h5⟩ := atI_get he
  obtain ⟨w, ew, rw'⟩ := r.get h2
  have hl := r.length
  have hn := line63
  have fin : EP X pins σ Q w s := ⟨z, H, I, rw', q⟩
  by_cases h0 : 0 ≤ i
  · have hj : i.toNat = j := by
      rw [seqIndex_of h0 h5] at h1
      exact Option.some.inj h1
    exact item_listR pl h0 (by omega) (by rw [hj]; simpa using ew) fin hs
  · have hj : (i + (its.toArray.size : Int)).toNat = j := by
      rw [seqIndex_neg (by omega) h4] at h1
      rw [List.size_toArray, ← hl]
      exact Option.some.inj h1
    exact subscriptTail_builtinR (x := w) pl.typeIs slot_list_getitem.lookup
      (wpAny_getItem_list_neg (Q := fun r s' => r = w ∧ EP X pins σ Q r s') pl (by omega) (by rw [List.size_toArray] <;> omega) (by omega) (by rw [hj]; simpa using ew) ⟨rfl, fin⟩) hs
theorem pe_menu (h : PA X es t) (hb : PE X b tb) (hs : PlainIx b) : PE X (.Subscript (.List es p1) b pos) (tMenu t tb) := by
  intro pins s σ H Q I hq
  refine Subscript_ (wpAny_List_spliced (thn (h p1 pins s σ H _ I hq) fun us s1 ⟨xs, H1, I1, r, z, q⟩ => ⟨by rw [← r.length]; exact z, ?_⟩))
  have hf : H1 s1.heap.objs.size = none := I1.hok.fresh (Nat.le_refl _)
  have I2 := I1.kept (t' := s1.toks) (h' := s1.heap.push { cls := .type "list", data := .seq us.toArray 0 }) (fun b u e => Heap.get?_push_of_some _ e)
  have I3 := I2.pins_of (pins' := pins ++ [(s1.heap.objs.size, { cls := .type "list", data := .seq us.toArray 0 })]) (fun p hp => by
    rcases List.mem_append.mp hp with hp | hp
    · exact I2.pin p (List.mem_append_right _ hp)
    · have e : p = (s1.heap.objs.size, ({ cls := .type "list", data := .seq us.toArray 0 } : Obj)) := by simpa using hp
      subst e
      refine ⟨Heap.get?_push_size _ rfl, hf, Nat.ne_of_gt I1.lt, I1.nofs (Nat.le_refl _), fun v e => ?_⟩
      have e' : Data.seq us.toArray 0 = Data.cell v := e
      cases e')
  refine thn (hb _ _ σ H1 _ I3 q) fun u s2 ⟨y, H2, I4, r4, i, v, hy, hv, qq⟩ => ?_
  subst hy
  obtain ⟨tk, rfl⟩ := r4
  have pn := (I4.pin (s1.heap.objs.size, { cls := .type "list", data := .seq us.toArray 0 }) (by simp)).1
  exact item_raw I4.unpinned r z ⟨_, pn, rfl, _, rfl⟩ hv qq (hs _ _)
end
section
variable {H : Hp} {Q : VK} {i : Int}
theorem i_menu3 {xa xb xc : Int} (h0 : 0 ≤ i) (h1 : i < 3) (q : ∀ z, (i = 0 ∧ z = xa) ∨ (i = 1 ∧ z = xb) ∨ (i = 2 ∧ z = xc) → Q (.int z) H) : rMenu [.int xa, .int xb, .int xc] (.int i) H Q := by
  have hi : i = 0 ∨ i = 1 ∨ i = 2 := by omega
  rcases hi with h | h | h
  · subst h; exact ⟨0, _, rfl, rfl, q _ (by simp)⟩
  · subst h; exact ⟨1, _, rfl, rfl, q _ (by simp)⟩
  · subst h; exact ⟨2, _, rfl, rfl, q _ (by simp)⟩
theorem i_menu4 {xa xb xc xd : Int} (h0 : 0 ≤ i) (h1 : i < 4) (q : ∀ z, (i = 0 ∧ z = xa) ∨ (i = 1 ∧ z = xb) ∨ (i = 2 ∧ z = xc) ∨ (i = 3 ∧ z = xd) → Q (.int z) H) : rMenu [.int xa, .int xb, .int xc, .int xd] (.int i) H Q := by
  have hi : i = 0 ∨ i = 1 ∨ i = 2 ∨ i = 3 := by omega
  rcases hi with h | h | h | h
  · subst h; exact ⟨0, _, rfl, rfl, q _ (by simp)⟩
  · subst h; exact ⟨1, _, rfl, rfl, q _ (by simp)⟩
  · subst h; exact ⟨2, _, rfl, rfl, q _ (by simp)⟩
  · subst h; exact ⟨3, _, rfl, rfl, q _ (by simp)⟩
end
theorem cxOf_K (CX : CXT) (P : Program) (w : World) (K : PySem.W.Frag) (mg : Str → Option Value) (base : Heap) (N : List Str) (qual : Str) (scope : Scope) (f : Addr) (cd : Value) (A : Around) (outer : List Env) (s : Shared) (H : Hp) (E : XK) : (cxOf CX P w K mg base N qual scope f cd A outer s H E).K = K := rfl
end L2

namespace L2
open PySem PySem.Spec PyProof.Rows
/-! ### a statement with a word behind it: what follows is read once -/
def tJoin (t u : TS) : TS := fun D σ H => ∃ Pj : St → Hp → Prop, t { D with nx := Pj } σ H ∧ ∀ σ' H', Pj σ' H' → u D σ' H'
theorem pss_join {X : Cx} {st : Stmt} {rest : List Stmt} {t u : TS} (h1 : PS X st t) (h2 : PSs X rest u) : PSs X (st :: rest) (tJoin t u) := by
  intro pins s σ H D I h
  obtain ⟨Pj, ht, hu⟩ := h
  refine wpAny_execs_cons (thn (h1 pins s σ H _ I ht) fun f s1 q => ?_)
  cases f with
  | next =>
    obtain ⟨σ1, H1, I1, q1⟩ := q
    exact h2 pins s1 σ1 H1 D I1 (hu _ _ q1)
  | brk => exact q
  | cont => exact q
  | ret u => exact q
end L2

namespace L2
open PySem PySem.Spec PyProof.Rows
/-! ### slices of lists of ints -/
theorem take_min {α : Type} (xs : List α) (k : Nat) : xs.take (min k xs.length) = xs.take k := by
  by_cases h : k ≤ xs.length
  · rw [Nat.min_eq_left h]
  · rw [Nat.min_eq_right (by omega), List.take_of_length_le (by omega), List.take_of_length_le (by omega)]
theorem drop_min {α : Type} (xs : List α) (k : Nat) : xs.drop (min k xs.length) = xs.drop k := by
  by_cases h : k ≤ xs.length
  · rw [Nat.min_eq_left h]
  · rw [Nat.min_eq_right (by omega), List.drop_of_length_le (by omega), List.drop_of_length_le (by omega)]
theorem sIx_pos (n d : Nat) {b : Int} (h : 0 ≤ b) : HT.sIx n d (some b) = min b.toNat n := by
  have := HT.sIx_nat n d b.toNat
  rwa [Int.toNat_of_nonneg h] at this
theorem cut_to {xs : List V} {b : Int} (h : 0 ≤ b) : cutV xs none (some b) = xs.take b.toNat := by
  unfold cutV
  rw [HT.sIx_none, sIx_pos _ _ h, Nat.sub_zero, List.drop_zero, take_min]
theorem cut_from {xs : List V} {a : Int} (h : 0 ≤ a) : cutV xs (some a) none = xs.drop a.toNat := by
  unfold cutV
  rw [HT.sIx_none, sIx_pos _ _ h, drop_min, List.take_of_length_le]
  rw [List.length_drop]; omega
theorem cut_mid {xs : List V} {a b : Int} (h : 0 ≤ a) (h2 : 0 ≤ b) : cutV xs (some a) (some b) = (xs.drop a.toNat).take (b.toNat - a.toNat) := by
  unfold cutV
  rw [sIx_pos _ _ h, sIx_pos _ _ h2, drop_min]
  by_cases e : b.toNat ≤ xs.length
  · by_cases e2 : a.toNat ≤ xs.length
    · rw [Nat.min_eq_left e, Nat.min_eq_left e2]
    · rw [List.drop_of_length_le (by omega)]; simp
  · rw [Nat.min_eq_right (by omega)]
    by_cases e2 : a.toNat ≤ xs.length
    · rw [Nat.min_eq_left e2, List.take_of_length_le (by rw [List.length_drop]; omega), List.take_of_length_le (by rw [List.length_drop]; omega)]
    · rw [List.drop_of_length_le (by omega)]; simp
section
variable {K : PySem.W.Frag} {H : Hp} {Q : VK} {a : Addr} {ns : List Int}
theorem i_slTo {b : Int} (h : SqL K H a (iL ns)) (hb : 0 ≤ b) (q : ∀ p, H p = none → Q (.ref p) (upd H p (.lst (iL (ns.take b.toNat))))) : rSlL K (.ref a) none (some b) H Q :=
  ⟨a, _, rfl, h, fun p hp => by rw [cut_to hb, ← List.map_take]; exact q p hp⟩
theorem i_slFrom {b : Int} (h : SqL K H a (iL ns)) (hb : 0 ≤ b) (q : ∀ p, H p = none → Q (.ref p) (upd H p (.lst (iL (ns.drop b.toNat))))) : rSlL K (.ref a) (some b) none H Q :=
  ⟨a, _, rfl, h, fun p hp => by rw [cut_from hb, ← List.map_drop]; exact q p hp⟩
theorem i_slMid {b c : Int} (h : SqL K H a (iL ns)) (hb : 0 ≤ b) (hc : 0 ≤ c) (q : ∀ p, H p = none → Q (.ref p) (upd H p (.lst (iL ((ns.drop b.toNat).take (c.toNat - b.toNat)))))) : rSlL K (.ref a) (some b) (some c) H Q :=
  ⟨a, _, rfl, h, fun p hp => by rw [cut_mid hb hc, ← List.map_drop, ← List.map_take]; exact q p hp⟩
end
end L2

set_option Elab.async false
set_option linter.all false
set_option maxRecDepth 100000
namespace L2
open PySem PySem.Spec PyProof.Rows

/-! ### an untracked list of ours is tracked from now on -/
theorem Inv.track {X : Cx} {pins : List (Addr × Obj)} {σ : St} {H : Hp} {s : Shared} {D : Addr} {o : HO} (I : Inv X pins σ H s) (hn : H D = none) (hL : D ≠ X.env.locals) (h1 : X.s₀.heap.objs.size ≤ D)
    (h2 : ∀ x c, X.env.cells.lookup x = some c → c ≠ D) (h3 : ∀ p ∈ X.pn ++ pins, p.1 ≠ D) (new : ObjOk X.prog X.w (upd H D o) s.heap D o) : Inv X pins σ (upd H D o) s := by
  have up : ∀ b u, H b = some u → upd H D o b = some u := fun b u e => by rw [upd_ne (ne_of_none e hn)]; exact e
  have un : ∀ b, b ≠ D → H b = none → upd H D o b = none := fun b hb e => by rw [upd_ne hb]; exact e
  refine ⟨I.ok, I.os, I.bare, ⟨I.base.keep, I.base.slot, fun b ob e n hx => un b (Nat.ne_of_lt (Nat.lt_of_lt_of_le (Heap.lt_size e) h1)) (I.base.free b ob e n hx), I.base.there, fun b xs e => up _ _ (I.base.tups b xs e), fun b ob u e => up _ _ (I.base.frzs b ob u e), fun b ps e => ?_⟩,
    I.loc, I.cell, un _ (Ne.symm hL) I.free, fun x c e => un _ (h2 x c e) (I.freeC x c e), fun p hp => ?_, fun b u e => ?_, I.len⟩
  · obtain ⟨m, e'⟩ := I.base.tbls b ps e
    exact ⟨m, up _ _ e'⟩
  · obtain ⟨e, n, r⟩ := I.pin p hp
    exact ⟨e, un _ (h3 p hp) n, r⟩
  · by_cases hb : b = D
    · subst hb
      rw [upd_same] at e
      cases e
      exact new
    · rw [upd_ne hb] at e
      exact (I.hok b u e).stay (fun _ _ _ q => q) (fun c q => up _ _ q) fun c xs q => up _ _ q

/-! ### the closure of a comprehension's block -/
def clOf (env : Env) : List (Str × NameKind) → List (Str × Addr) → List (Str × Addr)
  | [], acc => acc
  | (n, k) :: r, acc => clOf env r (if (k == .free) = true then (n, (env.cells.lookup n).getD 0) :: acc else acc)
theorem closure_go {env : Env} : ∀ (names : List (Str × NameKind)) (acc : List (Str × Addr)), (∀ y ∈ names, y.2 = .free → ∃ c, env.cells.lookup y.1 = some c) →
    (forIn names acc fun (x : Str × NameKind) (r : List (Str × Addr)) => match x with
      | (name, kind) => if (kind == .free) = true then do
          let a ← cellOf env name
          pure (ForInStep.yield ((name, a) :: r))
        else pure (ForInStep.yield r) : Sem (List (Str × Addr))) = pure (clOf env names acc)
  | [], acc, _ => rfl
  | (n, k) :: r, acc, h => by
    rw [List.forIn_cons, clOf]
    by_cases hk : (k == NameKind.free) = true
    · obtain ⟨c, hc⟩ := h (n, k) (List.mem_cons_self) (by simpa using hk)
      have hc' : env.cells.lookup n = some c := hc
      simp only [hk, if_true, cellOf, hc', Option.getD_some]
      exact closure_go r _ fun y hy => h y (List.mem_cons_of_mem _ hy)
    · simp only [hk, Bool.false_eq_true, if_false]
      exact closure_go r _ fun y hy => h y (List.mem_cons_of_mem _ hy)
theorem closure_eq {env : Env} {scope : Scope} (h : ∀ y ∈ scope.names, y.2 = .free → ∃ c, env.cells.lookup y.1 = some c) : closureFor scope env = pure (clOf env scope.names []) := by
  have q := closure_go scope.names [] h
  unfold closureFor
  exact (congrArg (fun z => z >>= fun r => pure r) q).trans rfl
theorem clOf_get {env : Env} {x : Str} {c : Addr} : ∀ (names : List (Str × NameKind)) (acc : List (Str × Addr)), (∀ y ∈ names, y.2 = .free → ∃ c, env.cells.lookup y.1 = some c) → (∀ x c, acc.lookup x = some c → env.cells.lookup x = some c) →
    (clOf env names acc).lookup x = some c → env.cells.lookup x = some c
  | [], acc, _, ha, e => ha x c e
  | (n, k) :: r, acc, h, ha, e => by
    rw [clOf] at e
    refine clOf_get r _ (fun y hy => h y (List.mem_cons_of_mem _ hy)) ?_ e
    intro y d hd
    by_cases hk : (k == NameKind.free) = true
    · rw [if_pos hk] at hd
      obtain ⟨c', hc⟩ := h (n, k) List.mem_cons_self (by simpa using hk)
      have hc' : env.cells.lookup n = some c' := hc
      rw [List.lookup_cons] at hd
      cases hy : y == n with
      | true =>
        rw [hy] at hd
        have e1 : y = n := by simpa using hy
        subst e1
        rw [hc'] at hd ⊢
        exact hd
      | false =>
        rw [hy] at hd
        exact ha y d hd
    · rw [if_neg hk] at hd
      exact ha y d hd
theorem clOf_has {env : Env} {x : Str} : ∀ (names : List (Str × NameKind)) (acc : List (Str × Addr)), ((x, NameKind.free) ∈ names ∨ ∃ c, acc.lookup x = some c) → ∃ c, (clOf env names acc).lookup x = some c
  | [], acc, h => by
    rcases h with h | h
    · exact absurd h (by simp)
    · exact h
  | (n, k) :: r, acc, h => by
    rw [clOf]
    refine clOf_has r _ ?_
    rcases h with h | ⟨c, h⟩
    · rcases List.mem_cons.mp h with e | e
      · cases e
        exact .inr ⟨_, by rw [if_pos (by rfl), List.lookup_cons, beq_self_eq_true]⟩
      · exact .inl e
    · refine .inr ?_
      by_cases hk : (k == NameKind.free) = true
      · rw [if_pos hk, List.lookup_cons]
        cases x == n with
        | true => exact ⟨_, rfl⟩
        | false => exact ⟨c, h⟩
      · rw [if_neg hk]; exact ⟨c, h⟩
/-- what a relabelled scope says of a name -/
theorem relabel_get {scope : Scope} {env : Env} {x : Str} {k : NameKind} (h : (relabel scope env).names.lookup x = some k) : (x, k) ∈ scope.names ∨ (k = .cell ∧ (x, NameKind.free) ∈ scope.names) := by
  have m := PySem.mem_of_lookup h
  unfold relabel at m
  obtain ⟨⟨n, k0⟩, hm, e⟩ := List.mem_map.mp m
  dsimp only at e
  split at e
  · rename_i hc
    cases e
    have : k0 = .free := by
      have := (Bool.and_eq_true _ _ ▸ (Bool.and_eq_true _ _ ▸ hc).1 : _ ∧ _).1
      simpa using this
    subst this
    exact .inr ⟨rfl, hm⟩
  · cases e
    exact .inl hm

theorem relabel_freeN {env : Env} : ∀ {names : List (Str × NameKind)} {x : Str}, names.lookup x = some .free →
    (names.map fun (n, k) => if (k == NameKind.free && env.scope.kind == .function && env.kindOf n == some .cell) then (n, NameKind.cell) else (n, k)).lookup x = some .cell ∨
    (names.map fun (n, k) => if (k == NameKind.free && env.scope.kind == .function && env.kindOf n == some .cell) then (n, NameKind.cell) else (n, k)).lookup x = some .free
  | [], _, h => by simp at h
  | (n, k) :: r, x, h => by
    have ih := @relabel_freeN env r x
    show List.lookup x ((if (k == NameKind.free && env.scope.kind == .function && env.kindOf n == some .cell) = true then (n, NameKind.cell) else (n, k)) :: _) = _ ∨ List.lookup x ((if (k == NameKind.free && env.scope.kind == .function && env.kindOf n == some .cell) = true then (n, NameKind.cell) else (n, k)) :: _) = _
    cases hx : x == n with
    | true =>
      simp only [List.lookup_cons, hx] at h
      cases h
      by_cases hc : (NameKind.free == NameKind.free && env.scope.kind == .function && env.kindOf n == some .cell) = true
      · rw [if_pos hc]; left; simp [List.lookup_cons, hx]
      · rw [if_neg hc]; right; simp [List.lookup_cons, hx]
    | false =>
      simp only [List.lookup_cons, hx] at h
      by_cases hc : (k == NameKind.free && env.scope.kind == .function && env.kindOf n == some .cell) = true
      · rw [if_pos hc]; simp only [List.lookup_cons, hx]; exact ih h
      · rw [if_neg hc]; simp only [List.lookup_cons, hx]; exact ih h
theorem relabel_free {scope : Scope} {env : Env} {x : Str} (h : scope.names.lookup x = some .free) : (relabel scope env).names.lookup x = some .cell ∨ (relabel scope env).names.lookup x = some .free := relabel_freeN h

/-! ### the block's context -/
def cxC (X : Cx) (scope : Scope) (C : Addr) (N : List Str) (s₂ : Shared) (H₂ : Hp) (ex : List Addr) : Cx :=
  { X with N := N, s₀ := s₂, H₀ := H₂, env := compEnvC scope (clOf X.env scope.names []) C X.env, outer := X.stack, stack := X.stack, ex := ex, fn := fun _ => false, pn := [], xe := fun _ _ => False }
/-- the names: a slot of the def's for each that is free in the block -/
def FrOk (X : Cx) (scope : Scope) : List Str → List (Option Nat) → Prop
  | [], [] => True
  | _ :: N, none :: fr => FrOk X scope N fr
  | x :: N, some j :: fr => (X.N[j]? = some x ∧ (X.env.kindOf x = some .cell ∨ X.env.kindOf x = some .free) ∧ scope.names.lookup x = some .free) ∧ FrOk X scope N fr
  | _, _ => False
def stC (fr : List (Option Nat)) (σ : St) : St := fr.map fun o => o.bind fun j => (σ[j]?).join
structure CompOk (X : Cx) (scope : Scope) (N : List Str) (fr : List (Option Nat)) : Prop where
  kind : scope.kind = .function
  ncell : ∀ y ∈ scope.names, y.2 ≠ .cell
  names : ∀ y ∈ scope.names, y.2 = .local → scope.names.lookup y.1 = some .local
  frees : ∀ y ∈ scope.names, y.2 = .free → X.env.kindOf y.1 = some .cell ∨ X.env.kindOf y.1 = some .free
  fr : FrOk X scope N fr
theorem FrOk.len {X : Cx} {scope : Scope} : ∀ {N : List Str} {fr : List (Option Nat)}, FrOk X scope N fr → fr.length = N.length
  | [], [], _ => rfl
  | _ :: N, none :: fr, h => by simp [FrOk.len (N := N) (fr := fr) h]
  | _ :: N, some j :: fr, h => by simp [FrOk.len (N := N) (fr := fr) h.2]
  | [], _ :: _, h => h.elim
  | _ :: _, [], h => h.elim
theorem FrOk.get {X : Cx} {scope : Scope} : ∀ {N : List Str} {fr : List (Option Nat)} {i j : Nat} {x : Str}, FrOk X scope N fr → N[i]? = some x → fr[i]? = some (some j) → X.N[j]? = some x ∧ (X.env.kindOf x = some .cell ∨ X.env.kindOf x = some .free) ∧ scope.names.lookup x = some .free
  | [], _, i, j, x, h, e, _ => by simp at e
  | y :: N, [], _, _, _, h, _, _ => h.elim
  | y :: N, none :: fr, 0, j, x, h, e, e2 => by simp at e2
  | y :: N, none :: fr, i + 1, j, x, h, e, e2 => FrOk.get (N := N) (fr := fr) (i := i) h (by simpa using e) (by simpa using e2)
  | y :: N, some k :: fr, 0, j, x, h, e, e2 => by
    simp at e e2
    subst e e2
    exact h.1
  | y :: N, some k :: fr, i + 1, j, x, h, e, e2 => FrOk.get (N := N) (fr := fr) (i := i) h.2 (by simpa using e) (by simpa using e2)
theorem stC_get {fr : List (Option Nat)} {σ : St} {i : Nat} {v : V} (h : (stC fr σ)[i]? = some (some v)) : ∃ j, fr[i]? = some (some j) ∧ σ[j]? = some (some v) := by
  unfold stC at h
  rw [List.getElem?_map] at h
  cases e : fr[i]? with
  | none => rw [e] at h; cases h
  | some o =>
    rw [e] at h
    cases o with
    | none => cases h
    | some j =>
      refine ⟨j, rfl, ?_⟩
      have h' : (σ[j]?).join = some v := by simpa using h
      cases e2 : σ[j]? with
      | none => rw [e2] at h'; cases h'
      | some w => rw [e2] at h'; cases w with
        | none => cases h'
        | some z => cases h'; rfl
section
variable {X : Cx} {scope : Scope} {N : List Str} {fr : List (Option Nat)}
theorem CompOk.cells (c : CompOk X scope N fr) (ok : X.Ok) : ∀ y ∈ scope.names, y.2 = .free → ∃ c, X.env.cells.lookup y.1 = some c := fun y hy e => ok.has y.1 (c.frees y hy e)
theorem CompOk.get (c : CompOk X scope N fr) (ok : X.Ok) {x : Str} {a : Addr} (h : (clOf X.env scope.names []).lookup x = some a) : X.env.cells.lookup x = some a :=
  clOf_get scope.names [] (c.cells ok) (fun _ _ z => by simp at z) h
theorem comp_ok {pins : List (Addr × Obj)} {σ : St} {H : Hp} {s₂ : Shared} {C : Addr} {fp : List Addr} (c : CompOk X scope N fr) (I : Inv X pins σ H s₂) (hC : s₂.heap.objs.size ≤ C) (hfp : ∀ b ∈ fp, FpOk X pins H b ∧ b < s₂.heap.objs.size) :
    (cxC X scope C N s₂ H fp).Ok where
  mod := I.ok.mod
  kind := c.kind
  glob := I.ok.glob
  blt := I.ok.blt
  above := hC
  inj := fun x y a h1 h2 => I.ok.inj x y a (c.get I.ok h1) (c.get I.ok h2)
  has := fun x h => by
    have hm : (x, NameKind.free) ∈ scope.names := by
      rcases h with h | h
      · rcases relabel_get h with z | ⟨_, z⟩
        · exact absurd rfl (c.ncell _ z)
        · exact z
      · rcases relabel_get h with z | ⟨z, _⟩
        · exact z
        · cases z
    exact clOf_has scope.names [] (.inl hm)
  cab := fun x a h => by cases h
  hd := I.ok.hd
  frames := I.ok.frames
  stk := .inl rfl
  exf := fun b hb => ⟨Nat.ne_of_lt (Nat.lt_of_lt_of_le (hfp b hb).2 hC), fun x a h => (hfp b hb).1.2.2.2.2.1 x a (c.get I.ok h)⟩
  bs := I.bs
  bsz := Nat.le_trans I.ok.bsz I.sz
  noex := fun b o e hb => by
    rcases (hfp b hb).1.2.2.2.1 with z | z
    · exact I.ok.noex b o e z
    · have h1 : b < X.base.objs.size := Heap.lt_size e
      have h2 := I.ok.bsz
      exact absurd (Nat.lt_of_lt_of_le h1 (Nat.le_trans h2 z)) (Nat.lt_irrefl _)
  exfs := fun b hb z => by
    rcases List.mem_cons.mp (I.stkSub b z) with e | e
    · exact (hfp b hb).1.2.1 e
    · exact (hfp b hb).1.2.2.1 e
  funs := I.stack
  frf := I.stkFree
theorem comp_inv {pins : List (Addr × Obj)} {σ : St} {H : Hp} {s₂ : Shared} {C : Addr} {fp : List Addr} {h₄ : Heap} {tk : Nat} (c : CompOk X scope N fr) (I : Inv X pins σ H s₂) (hC : s₂.heap.objs.size ≤ C) (hfp : ∀ b ∈ fp, FpOk X pins H b ∧ b < s₂.heap.objs.size)
    (hk : ∀ b o, s₂.heap.get? b = some o → h₄.get? b = some o) (hn : h₄.Ns C fun _ => none) : Inv (cxC X scope C N s₂ H fp) [] (stC fr σ) H { s₂ with heap := h₄, toks := tk } := by
  refine ⟨comp_ok c I hC hfp, rfl, I.bare, Un.kept hk, ⟨_, hn, fun i x v e1 e2 e3 => ?_⟩, fun x a e => ?_, I.hok.fresh hC, fun x a e => I.freeC x a (c.get I.ok e), fun p hp => absurd (show p ∈ ([] : List (Addr × Obj)) from hp) (by simp), I.hok.kept hk, ?_⟩
  · obtain ⟨j, f1, f2⟩ := stC_get e2
    obtain ⟨g1, g2, g3⟩ := c.fr.get e1 f1
    obtain ⟨m, hm, hl⟩ := I.loc
    have vis : Vis X.env.scope x := by
      rcases g2 with g | g
      · exact .inr (.inl g)
      · exact .inr (.inr g)
    obtain ⟨u, ru, lk⟩ := hl j x v g1 f2 vis
    refine ⟨u, ru, ?_⟩
    rcases lk with ⟨k, _⟩ | ⟨_, a, ea, o, ho, hd⟩
    · rcases g2 with g | g <;> (rw [k] at g; cases g)
    · obtain ⟨a', ea'⟩ := clOf_has (env := X.env) scope.names [] (.inl (PySem.mem_of_lookup g3))
      have e5 := c.get I.ok ea'
      rw [ea] at e5
      cases e5
      have kd : (cxC X scope C N s₂ H fp).env.kindOf x = some .cell ∨ (cxC X scope C N s₂ H fp).env.kindOf x = some .free := relabel_free g3
      exact .inr ⟨kd, a, ea', o, hk _ _ ho, hd⟩
  · obtain ⟨v, o, ho, hd⟩ := I.cell x a (c.get I.ok e)
    exact ⟨v, o, hk _ _ ho, hd⟩
  · unfold stC
    rw [List.length_map]
    exact c.fr.len
end

section
variable {prog : Program} {w : World} {A : Around} {E : Value → Shared → Prop} {R : Result → Shared → Prop} {s : Shared}
/-- a turn of the block's loop, whatever the target is -/
theorem compLoop_any {elt target iter : Expr} {ifs : List Expr} {scope : Scope} {pos : Pos} {it acc : Value} {env : Env} (I : Nat → Shared → Prop)
    (turn : ∀ n s, I n s → wpAny (model prog w) A (pyNext it) (fun r s₁ => match r with
      | none => R (.ok .next) s₁
      | some v => wpAny (model prog w) A (letOwnedTupleGo target it v) (fun _ s₀ => wpAny (model prog w) A (assign target env v) (fun _ s₂ =>
          wpAny (model prog w) A (forIn ifs true fun c r => if r = true then do let ok ← isTrue c env (eval c env); pure (ForInStep.yield ok) else pure (ForInStep.yield r)) (fun ok s₃ =>
            if ok = true then wpAny (model prog w) A (eval elt env) (fun x s₄ =>
              wpAny (model prog w) A (call (.builtin "list.append") [acc, x]) (fun _ s₅ => ∃ m, m < n ∧ I m s₅) (fun _ _ => False) s₄) (fun _ _ => False) s₃
            else ∃ m, m < n ∧ I m s₃) (fun _ _ => False) s₂) (fun _ _ => False) s₀) (fun _ _ => False) s₁) (fun _ _ => False) s)
    (n : Nat) (h : I n s) :
    codeAny (model prog w) A (.compLoop (.ListComp elt [⟨target, iter, ifs, 0⟩] scope pos) 0 it acc env) R s := by
  refine codeAny_loop rfl I (fun n s hI => ?_) n h
  show wpAny _ A ((compTurn (.ListComp elt [⟨target, iter, ifs, 0⟩] scope pos) 0 it acc env).onRaise (fun x => do noteFrame x env; theTreesLotGoes x)) _ _ s
  refine wpAny_noted ?_
  rw [compTurn_list]
  have nf : ∀ {α : Type} {m : Sem α} {Q : α → Shared → Prop} {F : Value → Shared → Prop} {s : Shared}, wpAny (model prog w) A m Q (fun _ _ => False) s → wpAny (model prog w) A m Q F s := fun h => wpAny_mono h (fun _ _ x => x) fun _ _ x => x.elim
  refine wpAny_bind (wpAny_standAt (wpAny_bind (wpAny_mono (nf (turn n s hI)) (fun r s₁ h₁ => ?_) fun _ _ h' => h')))
  cases r with
  | none => exact wpAny_pure h₁
  | some v =>
    refine wpAny_bind (wpAny_mono (nf h₁) (fun _ s₀ h₀ => ?_) fun _ _ h' => h')
    refine wpAny_bind (wpAny_mono (nf h₀) (fun _ s₂ h₂ => wpAny_bind (wpAny_mono (nf h₂) (fun ok s₃ h₃ => ?_) fun _ _ h' => h')) fun _ _ h' => h')
    cases ok with
    | false => exact wpAny_pure ⟨rfl, h₃⟩
    | true =>
      exact wpAny_bind (wpAny_bind (wpAny_mono (nf h₃) (fun x s₄ h₄ => wpAny_bind (wpAny_mono (nf h₄) (fun _ s₅ h₅ => wpAny_pure (wpAny_pure ⟨rfl, h₅⟩)) fun _ _ h' => h')) fun _ _ h' => h'))
end

/-! ### targets that leave the free names -/
def Wk (fr : List (Option Nat)) (σ σ2 : St) : Prop := σ2.length = σ.length ∧ ∀ (i j : Nat), fr[i]? = some (some j) → σ2[i]? = σ[i]?
theorem Wk.trans {fr : List (Option Nat)} {a b c : St} (h1 : Wk fr a b) (h2 : Wk fr b c) : Wk fr a c := ⟨h2.1.trans h1.1, fun i j e => (h2.2 i j e).trans (h1.2 i j e)⟩
def GW (fr : List (Option Nat)) (g : TG) : Prop := ∀ x σ H (Q Q' : St → Hp → Prop), (∀ σ2 H2, Wk fr σ σ2 → Q σ2 H2 → Q' σ2 H2) → g x σ H Q → g x σ H Q'
def GWs (fr : List (Option Nat)) (g : TGs) : Prop := ∀ x σ H (Q Q' : St → Hp → Prop), (∀ σ2 H2, Wk fr σ σ2 → Q σ2 H2 → Q' σ2 H2) → g x σ H Q → g x σ H Q'
theorem gw_name {fr : List (Option Nat)} {i : Nat} (h : fr[i]? = some none) : GW fr (gName i) := fun x σ H Q Q' k q => by
  refine k _ _ ⟨by simp, fun a j e => ?_⟩ q
  have : i ≠ a := fun z => by subst z; rw [h] at e; cases e
  rw [List.getElem?_set_ne this]
theorem gws_nil {fr : List (Option Nat)} : GWs fr gNil := fun x σ H Q Q' k q => ⟨q.1, k _ _ ⟨rfl, fun _ _ _ => rfl⟩ q.2⟩
theorem gws_cons {fr : List (Option Nat)} {t : TG} {u : TGs} (h1 : GW fr t) (h2 : GWs fr u) : GWs fr (gCons t u) := fun x σ H Q Q' k q => by
  obtain ⟨v, r, e, q⟩ := q
  exact ⟨v, r, e, h1 v σ H _ _ (fun σ' H' w1 q1 => h2 r σ' H' _ _ (fun σ2 H2 w2 q2 => k _ _ (w1.trans w2) q2) q1) q⟩
theorem gw_tup {fr : List (Option Nat)} {K : PySem.W.Frag} {n : Nat} {t : TGs} (h : GWs fr t) : GW fr (gTup K n t) := fun x σ H Q Q' k q => by
  obtain ⟨a, xs, e1, e2, e3, q⟩ := q
  exact ⟨a, xs, e1, e2, e3, h xs σ H _ _ k q⟩

/-! ### the tests -/
def PIfs (X : Cx) (ifs : List Expr) (t : TT) : Prop :=
  ∀ (pins : List (Addr × Obj)) (s : Shared) (σ : St) (H : Hp) (Q : Bool → Hp → Prop), Inv X pins σ H s → t σ H Q →
    wpAny (model X.prog X.w) X.A (forIn ifs true fun c r => if r = true then do let ok ← isTrue c X.env (eval c X.env); pure (ForInStep.yield ok) else pure (ForInStep.yield r)) (TP X pins σ Q) X.xe s
def tNoIf : TT := fun _ H Q => Q true H
theorem pifs_nil {X : Cx} : PIfs X [] tNoIf := fun _ _ _ H _ I h => wpAny_tests_nil ⟨H, I, h⟩
/-! ### the comprehension -/
def CompI (J : It) (g : TG) (ti : TT) (te : TE) (σc : St) (H1 : Hp) (Q : VK) : Prop := ∃ W : Nat → Nat → List V → Hp → Prop, (∃ m, W 0 m [] H1) ∧ ∀ i m ys H, W i m ys H → ys.length < sizeLine ∧
  ((J.stop i H ∧ ∀ l, H l = none → Q (.ref l) (upd H l (.lst ys))) ∨ (J.go i H ∧ ∃ M : List V → Hp → Prop, (∀ ys' H', M ys' H' → ∃ m', m' < m ∧ W (i + 1) m' ys' H') ∧
    ∀ x H', J.yld i H x H' → g x σc H' fun σ2 H2 => ti σ2 H2 fun b H3 => if b = true then te σ2 H3 fun y H4 => M (ys ++ [y]) H4 else M ys H3))
def tComp (fr : List (Option Nat)) (wi : TI) (g : TG) (ti : TT) (te : TE) : TE := fun σ H Q => wi σ H fun J H1 => CompI J g ti te (stC fr σ) H1 Q
structure Aside (X : Cx) (pins : List (Addr × Obj)) (H : Hp) (C : Addr) : Prop where
  fr : H C = none
  ne : C ≠ X.env.locals
  ab : X.s₀.heap.objs.size ≤ C
  cl : ∀ x c, X.env.cells.lookup x = some c → c ≠ C
  pn : ∀ p ∈ X.pn ++ pins, p.1 ≠ C
theorem Inv.aside {X : Cx} {pins : List (Addr × Obj)} {σ : St} {H H' : Hp} {s : Shared} {C : Addr} (I : Inv X pins σ H s) (hC : s.heap.objs.size ≤ C) (hn : H' C = none) : Aside X pins H' C := by
  obtain ⟨a, b, c, d, e, f⟩ := I.fpOk hC hn
  exact ⟨hn, b, Nat.le_trans I.sz hC, e, f⟩
def lob (us : List Value) (n : Nat) : Obj := { cls := .type "list", dict := none, data := .seq us.toArray n }
section
variable {X : Cx} {scope : Scope} {N : List Str} {fr : List (Option Nat)} {tg iter elt : Expr} {ifs : List Expr} {pos : Pos} {J : It} {g : TG} {ti : TT} {te : TE}
theorem comp_core {pins : List (Addr × Obj)} {σ : St} {H : Hp} {s₂ : Shared} {it : Addr} {fp : List Addr} {tn : Nat → Heap → Prop} {Q : VK} {E : Value → Shared → Prop} (c : CompOk X scope N fr) (hc : X.calm = true) (I : Inv X pins σ H s₂)
    (T : Turn X.prog X.w X.K tg J fp it tn) (st : tn 0 s₂.heap) (hfp : ∀ b ∈ fp, FpOk X pins H b)
    (hg : ∀ C, PG (cxC X scope C N s₂ H fp) tg g) (hi : ∀ C, PIfs (cxC X scope C N s₂ H fp) ifs ti) (he : ∀ C, PE (cxC X scope C N s₂ H fp) elt te) (gw : GW fr g) (hq : CompI J g ti te (stC fr σ) H Q)
    {RR : Value → Addr → Result → Shared → Prop}
    (hRR : ∀ D C H' ys s', Inv X pins σ (upd H' D (.lst ys)) s' → Aside X pins (upd H' D (.lst ys)) C → (∃ m, s'.heap.Ns C m) → Q (.ref D) (upd H' D (.lst ys)) → RR (.ref D) C (.ok .next) s') :
    wpAny (model X.prog X.w) X.A (newList []) (fun acc s₃ => wpAny (model X.prog X.w) X.A (newFunctionEnv scope X.env.globals (clOf X.env scope.names []) [] X.env.qual none .none (some X.env)) (fun cenv s₄ =>
      codeAny (model X.prog X.w) X.A (.compStart (.ListComp elt [⟨tg, iter, ifs, 0⟩] scope pos) 0 (.ref it) acc { cenv with scope := relabel scope X.env }) (RR acc cenv.locals) s₄) E s₃) E s₂ := by
  refine wpAny_newObj_type (wpAny_newFunctionEnv c.ncell (by intro y hy; simp at hy) (fun h₁ hns₁ hsb₁ => ?_) c.kind)
  dsimp only at hns₁ hsb₁ ⊢
  generalize hH2 : s₂.heap.push { cls := .type "list", dict := none, data := .seq ([] : List Value).toArray } = H2 at hns₁ hsb₁ ⊢
  have hC : H2.objs.size = s₂.heap.objs.size + 1 := by rw [← hH2, Heap.size_push]
  have hCle : s₂.heap.objs.size ≤ H2.objs.size := by rw [hC]; exact Nat.le_succ _
  have hDC : s₂.heap.objs.size ≠ H2.objs.size := by rw [hC]; exact Nat.ne_of_lt (Nat.lt_succ_self _)
  have old : ∀ b o, s₂.heap.get? b = some o → h₁.get? b = some o := fun b o e => hsb₁.extBut b o (by rw [hC]; exact Nat.ne_of_lt (Nat.lt_succ_of_lt (Heap.lt_size e))) (Heap.get?_push_of_some _ (hH2 ▸ Heap.get?_push_of_some _ e))
  have hacc : h₁.get? s₂.heap.objs.size = some (lob [] 0) := hsb₁.extBut _ _ hDC (Heap.get?_push_of_some _ (hH2 ▸ Heap.get?_push_size _ rfl))
  generalize hD : s₂.heap.objs.size = D at *
  generalize hCC : H2.objs.size = C at *
  have hfp2 : ∀ b ∈ fp, FpOk X pins H b ∧ b < s₂.heap.objs.size := fun b hb => ⟨hfp b hb, by obtain ⟨o, e, _⟩ := T.obj _ _ st b hb; exact Heap.lt_size e⟩
  have hns₂ : h₁.Ns C fun _ => none := hns₁
  have I0 : Inv (cxC X scope C N s₂ H fp) [] (stC fr σ) H { s₂ with heap := h₁, toks := s₂.toks + ([] : List (Str × Value)).length } := comp_inv c I (by rw [hD]; exact hCle) hfp2 old hns₂
  have st₁ : tn 0 h₁ := T.keep _ _ _ st fun b hb o e => old b o e
  have hDn : ∀ b ∈ fp, b ≠ D := fun b hb => by rw [← hD]; exact Nat.ne_of_lt (hfp2 b hb).2
  -- what is true of the list that grows
  have dAs : ∀ {H' : Hp}, H' D = none → (D ≠ (cxC X scope C N s₂ H fp).env.locals ∧ (cxC X scope C N s₂ H fp).s₀.heap.objs.size ≤ D ∧ ∀ x a, (cxC X scope C N s₂ H fp).env.cells.lookup x = some a → a ≠ D) := fun hn => ⟨hDC, Nat.le_of_eq hD, fun x a e z => by
    obtain ⟨v, o, ho, _⟩ := I.cell x a (c.get I.ok e)
    have := Heap.lt_size ho
    rw [z, ← hD] at this
    exact Nat.lt_irrefl _ this⟩
  obtain ⟨W, ⟨m0, w0⟩, turn⟩ := hq
  have loop : codeAny (model X.prog X.w) X.A (.compLoop (.ListComp elt [⟨tg, iter, ifs, 0⟩] scope pos) 0 (.ref it) (.ref D) (compEnvC scope (clOf X.env scope.names []) C X.env)) (RR (.ref D) C) { s₂ with heap := h₁, toks := s₂.toks + ([] : List (Str × Value)).length } := by
    refine compLoop_any (fun n s' => ∃ i ys us k H', Inv (cxC X scope C N s₂ H fp) [] (stC fr σ) H' s' ∧ tn i s'.heap ∧ (∀ b ∈ fp, H' b = none) ∧ s'.heap.get? D = some (lob us k) ∧ Vals ys us ∧ H' D = none ∧ W i n ys H') ?_ m0
      ⟨0, [], [], 0, H, I0, st₁, fun b hb => (hfp b hb).1, hacc, .nil, by rw [← hD]; exact I.hok.fresh (Nat.le_refl _), w0⟩
    rintro n s3 ⟨i, ys, us, k, H3, I3, st3, fr3, hD3, rv3, hDn3, w3⟩
    obtain ⟨hlen, alt⟩ := turn i n ys H3 w3
    obtain ⟨d1, d2, d3⟩ := dAs hDn3
    -- the list pinned
    have I3p : Inv (cxC X scope C N s₂ H fp) [(D, lob us k)] (stC fr σ) H3 s3 := I3.pins_of fun p hp => by
      have e : p = (D, lob us k) := by simpa using hp
      subst e
      refine ⟨hD3, hDn3, d1, fun z => ?_, fun v e => by cases (show Data.seq us.toArray k = Data.cell v from e)⟩
      have z' : D ∈ frs X.stack := z
      rcases List.mem_cons.mp (I.stkSub D z') with e | e
      · have := I.lt
        rw [← e, ← hD] at this
        exact Nat.lt_irrefl _ this
      · exact I.nofs (Nat.le_of_eq hD) e
    have stat : ∀ {H' : Hp}, (∀ b ∈ fp, H' b = none) → ∀ b ∈ fp, FpOk (cxC X scope C N s₂ H fp) [(D, lob us k)] H' b := fun hn b hb => by
      obtain ⟨q1, q2⟩ := hfp2 b hb
      refine ⟨hn b hb, Nat.ne_of_lt (Nat.lt_of_lt_of_le q2 (by rw [hD]; exact hCle)), fun z => ?_, .inl hb, fun x a e => q1.2.2.2.2.1 x a (c.get I.ok e), fun p hp => ?_⟩
      · exact (comp_ok c I (by rw [hD]; exact hCle) hfp2).exfs b hb z
      · have e : p = (D, lob us k) := by simpa [cxC] using hp
        subst e
        exact (hDn b hb).symm
    rcases alt with ⟨stop, qn⟩ | ⟨go, M, hM, step⟩
    · refine thn (T.done (cxC X scope C N s₂ H fp) rfl rfl rfl hc i _ s3 _ H3 _ I3p (stat fr3) st3 stop) fun r s4 ⟨hr, I4⟩ => ?_
      subst hr
      have pD := (I4.pin (D, lob us k) (by simp)).1
      have I4' : Inv (cxC X scope C N s₂ H fp) [] (stC fr σ) H3 s4 := I4.pins_of fun p hp => absurd hp (by simp)
      have IX : Inv X pins σ H3 s4 := I.call' I4'.os I4'.base I4'.hok I4'.bare fun b hb => by
        obtain ⟨q1, q2, q3, q4, q5, q6⟩ := hfp b hb
        exact ⟨q4, q2, q5, q6⟩
      have aD : Aside X pins H3 D := I.aside (Nat.le_of_eq hD) hDn3
      have IT : Inv X pins σ (upd H3 D (.lst ys)) s4 := IX.track hDn3 aD.ne aD.ab aD.cl aD.pn ⟨Nat.le_of_lt hlen, us, k, rv3, pD⟩
      refine hRR D C H3 ys s4 IT ?_ ?_ (qn D hDn3)
      · refine I.aside (by rw [hD]; exact hCle) ?_
        rw [upd_ne (Ne.symm hDC)]
        exact I4'.free
      · obtain ⟨m, hm, _⟩ := I4'.loc
        exact ⟨m, hm⟩
    · refine thn (T.item (cxC X scope C N s₂ H fp) rfl rfl rfl hc i _ s3 _ H3 _ I3p (stat fr3) st3 go) fun r s4 ⟨u, hr, h4⟩ => ?_
      subst hr
      refine thn h4 fun _ s5 ⟨x, H5, I5, r5, y5, st5, fr5⟩ => ?_
      have I5' := I5.pinned (stat fr5) (T.obj _ _ st5)
      refine thn (hg C _ s5 _ H5 x u _ I5' r5 (gw x _ H5 _ _ (fun σ2 H2 wk q => And.intro wk q) (step x H5 y5))) fun _ s6 ⟨σ6, H6, I6, wk6, q6⟩ => ?_
      refine thn (hi C _ s6 σ6 H6 _ I6 q6) fun ok s7 ⟨H7, I7, q7⟩ => ?_
      have back : ∀ {σ8 : St} {H8 : Hp} {s8 : Shared}, σ8 = σ6 → Inv (cxC X scope C N s₂ H fp) ([(D, lob us k)] ++ pinsAt fp s5.heap) σ8 H8 s8 → Inv (cxC X scope C N s₂ H fp) [] (stC fr σ) H8 s8 ∧ tn (i + 1) s8.heap ∧ (∀ b ∈ fp, H8 b = none) ∧ s8.heap.get? D = some (lob us k) ∧ H8 D = none := fun {σ8 H8 s8} e8 I8 => by
        subst e8
        have pf : ∀ b o, b ∈ fp → s5.heap.get? b = some o → s8.heap.get? b = some o ∧ H8 b = none := fun b o hb e => by
          have := I8.pin (b, o) (List.mem_append_right _ (List.mem_append_right _ (mem_pinsAt hb e)))
          exact ⟨this.1, this.2.1⟩
        refine ⟨(I8.pins_of (pins' := []) fun p hp => absurd hp (by simp)).weak wk6.1.symm fun a v e => ?_, T.keep _ _ _ st5 fun b hb o e => (pf b o hb e).1, fun b hb => ?_, (I8.pin (D, lob us k) (by simp)).1, (I8.pin (D, lob us k) (by simp)).2.1⟩
        · obtain ⟨j, f1, _⟩ := stC_get e
          rw [wk6.2 a j f1]
          exact e
        · obtain ⟨o, e, _⟩ := T.obj _ _ st5 b hb
          exact (pf b o hb e).2
      cases ok with
      | false =>
        obtain ⟨m', hm, w7⟩ := hM _ _ (by simpa using q7)
        obtain ⟨a1, a2, a3, a4, a5⟩ := back rfl I7
        exact ⟨m', hm, i + 1, ys, us, k, H7, a1, a2, a3, a4, rv3, a5, w7⟩
      | true =>
        have q7' : te σ6 H7 fun y H4 => M (ys ++ [y]) H4 := by simpa using q7
        refine thn (he C _ s7 σ6 H7 _ I7 q7') fun v s8 ⟨y, H8, I8, ry, q8⟩ => ?_
        obtain ⟨m', hm, w8⟩ := hM _ _ q8
        obtain ⟨a1, a2, a3, a4, a5⟩ := back rfl I8
        have hus : us.toArray.size ≤ sizeLine := by
          rw [List.size_toArray, ← rv3.length]
          exact Nat.le_of_lt hlen
        refine wpAny_list_append_plain (hsz := hus) (l := D) (items := us.toArray) ⟨_, a4⟩ fun h₅ hl₅ hs₅ => ?_
        obtain ⟨k', hl₅'⟩ := hl₅
        obtain ⟨e1, e2, e3⟩ := dAs a5
        refine ⟨m', hm, i + 1, ys ++ [y], us ++ [v], k', H8, a1.turned (t' := s8.toks) (fun b o hb e => (hs₅.2 b hb).trans e) a5 e1 (.inr e2) e3 (fun p hp => absurd (show p ∈ ([] : List (Addr × Obj)) from hp) (by simp)), T.keep _ _ _ a2 fun b hb o e => (hs₅.2 b (hDn b hb)).trans e, a3, ?_, rv3.append (.cons ry .nil), a5, w8⟩
        show h₅.get? D = _
        rw [hl₅']
        simp [lob]
  exact codeAny_compStart_list loop (T.self _ _ _ _ _ st₁ loop)

theorem pe_comp {wi : TI} (c : CompOk X scope N fr) (hc : X.calm = true) (hi : PI X tg iter wi) (hg : ∀ C s₂ H fp, PG (cxC X scope C N s₂ H fp) tg g) (hf : ∀ C s₂ H fp, PIfs (cxC X scope C N s₂ H fp) ifs ti) (he : ∀ C s₂ H fp, PE (cxC X scope C N s₂ H fp) elt te) (gw : GW fr g)
    (hs : ∀ x, foldedSetIterable iter X.env x = pure x := by intro _; rfl) : PE X (.ListComp elt [⟨tg, iter, ifs, 0⟩] scope pos) (tComp fr wi g ti te) := by
  intro pins s σ H Q I h
  rw [eval_ListComp]
  refine wpAny_comprehension_free (use := none) rfl hs (closure_eq (c.cells I.ok)) c.kind c.names (thn (hi pins s σ H _ I h) fun v s1 h1 => thn h1 fun itv s2 h2 => ?_)
  obtain ⟨it, fp, tn, J, H2, e, I2, T, st2, f2, q⟩ := h2
  subst e
  refine comp_core (RR := fun acc C => compPost (model X.prog X.w) X.A X.xe none (EP X pins σ Q) acc C) c hc I2 T st2 f2 (fun C => hg C _ _ _) (fun C => hf C _ _ _) (fun C => he C _ _ _) gw q ?_
  intro D C H' ys s' IT as hm q
  obtain ⟨m, hm⟩ := hm
  exact ⟨m, hm, fun h' sb => ⟨.ref D, _, IT.turned (t' := s'.toks) (fun b o hb e => (sb.2 b hb).trans e) as.fr as.ne (.inr as.ab) as.cl as.pn, rfl, q⟩⟩
theorem ps_setC {wi : TI} {i : Nat} {x : Str} {pos' spos : Pos} (hN : X.N.Nodup) (hn : X.N[i]? = some x) (hx : Loc X.env.scope x) (c : CompOk X scope N fr) (hc : X.calm = true) (hi : PI X tg iter wi) (hg : ∀ C s₂ H fp, PG (cxC X scope C N s₂ H fp) tg g) (hf : ∀ C s₂ H fp, PIfs (cxC X scope C N s₂ H fp) ifs ti) (he : ∀ C s₂ H fp, PE (cxC X scope C N s₂ H fp) elt te) (gw : GW fr g)
    (hsw : swapsWith (.ListComp elt [⟨tg, iter, ifs, 0⟩] scope pos) (some (.Name x pos')) spos.line X.env = pure true := by rfl) (hs : ∀ x, foldedSetIterable iter X.env x = pure x := by intro _; rfl)
    (hfl : X.fn x = true ∨ X.env.scope.names.lookup x = some .local := by first | exact .inl rfl | exact .inr rfl | assumption) :
    PS X (.Assign [.Name x pos'] (.ListComp elt [⟨tg, iter, ifs, 0⟩] scope pos) spos) (tAsg (tComp fr wi g ti te) (gName i)) := by
  intro pins s σ H Q I h
  rw [exec_Assign_Name_used _ _ _ _ hsw]
  refine wpAny_bind (wpAny_standAt (wpAny_bind ?_))
  show wpAny _ X.A (do let _ ← comprehension (.ListComp elt [⟨tg, iter, ifs, 0⟩] scope pos) scope X.env _ (newList []) false (eval iter X.env) (some (assign (.Name x pos') X.env))) _ _ s
  refine wpAny_bind (wpAny_mono (wpAny_comprehension_free (use := some (assign (.Name x pos') X.env)) (Q := fun _ s' => SP X pins Q .next s') rfl hs (closure_eq (c.cells I.ok)) c.kind c.names
    (thn (hi pins s σ H _ I h) fun v s1 h1 => thn h1 fun itv s2 h2 => ?_)) (fun _ s' hq => wpAny_pure (wpAny_pure hq)) fun _ _ e => e)
  obtain ⟨it, fp, tn, J, H2, e, I2, T, st2, f2, q⟩ := h2
  subst e
  refine comp_core (RR := fun acc C => compPost (model X.prog X.w) X.A X.xe (some (assign (.Name x pos') X.env)) (fun _ s' => SP X pins Q .next s') acc C) c hc I2 T st2 f2 (fun C => hg C _ _ _) (fun C => hf C _ _ _) (fun C => he C _ _ _) gw q ?_
  intro D C H' ys s' IT as hm q
  obtain ⟨m, hm⟩ := hm
  show wpAny _ X.A (assign (.Name x pos') X.env (.ref D)) _ _ _
  refine wpAny_assign_Name (store_ok2 IT hN hn hx (v := .ref D) rfl (fun s2 I3 hsb => ?_) hfl)
  obtain ⟨a, sb, ha⟩ := hsb
  have hne : C ≠ a := by
    rcases ha with ha | ha
    · rw [ha]; exact as.ne
    · exact (as.cl _ _ ha).symm
  refine ⟨m, hm.sameBut sb hne, fun h' sb' => ⟨_, _, I3.turned (t' := s2.toks) (fun b o hb e => (sb'.2 b hb).trans e) as.fr as.ne (.inr as.ab) as.cl as.pn, q⟩⟩
end
end L2

set_option Elab.async false
set_option linter.all false
set_option maxRecDepth 100000
namespace L2
open PySem PySem.Spec PyProof.Rows

/-- several untracked records of ours have turned -/
theorem Inv.turnedL {X : Cx} {pins : List (Addr × Obj)} {σ : St} {H : Hp} {s : Shared} {h' : Heap} {t' : Nat} {fp : List Addr} (I : Inv X pins σ H s) (hf : ∀ b ∈ fp, FpOk X pins H b) (k : ∀ b o, b ∉ fp → s.heap.get? b = some o → h'.get? b = some o) :
    Inv X pins σ H { s with heap := h', toks := t' } := by
  have nit : ∀ b u, H b = some u → b ∉ fp := fun b u e z => by rw [(hf b z).1] at e; cases e
  refine I.step (g' := s.gens) (d' := s.drawn) (ch := fp) (fun b hb => ?_) (fun b o _ _ hc e _ => k b o hc e) (fun b o _ _ hc e _ => ⟨o.slots, k b o hc e⟩) (fun _ _ _ _ n => n)
    (fun b o hc e => ⟨o, k b o hc e⟩) (fun _ _ e => e) (fun _ _ _ e => e) (fun b ps e => ⟨#[], by rw [e]; simp⟩) (fun m hm => ?_) (fun b u e => ?_) I.bare
  · obtain ⟨q1, q2, q3, q4, q5, q6⟩ := hf b hb
    exact ⟨q4, q2, q5, q6⟩
  · obtain ⟨o, es, ep, ho, r⟩ := hm
    exact ⟨o, es, ep, k _ o (fun z => (hf _ z).2.1 rfl) ho, r⟩
  · refine (I.hok b u e).stay (fun c v hc q => k c v ?_ q) (fun _ q => q) fun _ _ q => q
    rcases hc with z | z
    · rw [z]; exact nit b u e
    · exact nit c _ z
/-- .. and a tuple is new -/
theorem Inv.turnT {X : Cx} {pins : List (Addr × Obj)} {σ : St} {H : Hp} {s : Shared} {h' : Heap} {t' : Nat} {fp : List Addr} {T : Addr} {xs : List V} {its : List Value} (I : Inv X pins σ H s) (hf : ∀ b ∈ fp, FpOk X pins H b) (k : ∀ b o, b ∉ fp → s.heap.get? b = some o → h'.get? b = some o)
    (hT : s.heap.objs.size ≤ T) (hz : xs.length ≤ sizeLine) (r : Vals xs its) (it : IsTup h' T its.toArray) : Inv X pins σ (upd H T (.tup xs)) { s with heap := h', toks := t' } := by
  have hn : H T = none := I.hok.fresh hT
  have a := I.aside hT hn
  exact (I.turnedL (t' := t') hf k).track hn a.ne a.ab a.cl a.pn ⟨hz, its, r, it⟩

/-! ### zip of two lists -/
def Itz (K : PySem.W.Frag) (a b : Addr) : It :=
  ⟨fun i H => ∃ xs ys x y, SqL K H a xs ∧ SqL K H b ys ∧ xs[i]? = some x ∧ ys[i]? = some y,
   fun i H v H' => ∃ T x y, v = .ref T ∧ H T = none ∧ H' = upd H T (.tup [x, y]) ∧ (∀ xs, SqL K H a xs → xs[i]? = some x) ∧ ∀ ys, SqL K H b ys → ys[i]? = some y,
   fun i H => ∃ xs ys, SqL K H a xs ∧ SqL K H b ys ∧ (xs.length ≤ i ∨ ys.length ≤ i)⟩
def ZipSt (z TI TO i1 i2 a b : Addr) (i : Nat) (h : Heap) : Prop := IsZip h z TI TO .none ∧ IsPair h TI (.ref i1) (.ref i2) ∧ (∃ u v, IsPair h TO u v) ∧ h.IsListIter i1 a i ∧ h.IsListIter i2 b i
theorem turn_zip {P : Program} {w : World} {K : PySem.W.Frag} {elts : List Expr} {kk : Nat} {tp : Pos} {z TI TO i1 i2 a b : Addr} (D : ZipApart z TI TO i1 i2 a b) :
    Turn P w K (.Tuple elts kk tp) (Itz K a b) [z, TI, TO, i1, i2] z (ZipSt z TI TO i1 i2 a b) where
  mem := by simp
  obj := fun i h st c hc => by
    obtain ⟨h1, h2, ⟨u, v, h3⟩, ⟨o1, e1, _, d1⟩, ⟨o2, e2, _, d2⟩⟩ := st
    simp only [List.mem_cons, List.not_mem_nil, or_false] at hc
    rcases hc with rfl | rfl | rfl | rfl | rfl
    · exact ⟨_, h1, fun v z => by cases (show Data.fields _ = Data.cell v from z)⟩
    · exact ⟨_, h2, fun v z => by cases (show Data.seq _ _ = Data.cell v from z)⟩
    · exact ⟨_, h3, fun v z => by cases (show Data.seq _ _ = Data.cell v from z)⟩
    · exact ⟨_, e1, fun v z => by rw [d1] at z; cases z⟩
    · exact ⟨_, e2, fun v z => by rw [d2] at z; cases z⟩
  keep := fun i h h' st k => by
    obtain ⟨h1, h2, ⟨u, v, h3⟩, h4, h5⟩ := st
    exact ⟨k _ (by simp) _ h1, k _ (by simp) _ h2, ⟨u, v, k _ (by simp) _ h3⟩, h4.at fun o e => k _ (by simp) o e, h5.at fun o e => k _ (by simp) o e⟩
  item := by
    intro X hP hw hK hc i pins s σ H E I hf st hg
    subst hP hw hK
    obtain ⟨xs, ys, x, y, hx, hy, ex, ey⟩ := hg
    obtain ⟨h1, h2, ⟨u, v, h3⟩, h4, h5⟩ := st
    obtain ⟨its, rv, p, hz⟩ := I.list hx
    obtain ⟨jts, rw', q, hz'⟩ := I.list hy
    obtain ⟨ux, hux, rux⟩ := rv.get ex
    obtain ⟨uy, huy, ruy⟩ := rw'.get ey
    refine wpAny_pyNext_zip_item D h1 h2 h3 h4 h5 p.isList q.isList (x := ux) (y := uy) (by simpa using hux) (by simpa using huy) fun h' a1 a2 a3 a4 a5 a6 a7 => ?_
    have lt : ∀ c ∈ [z, TI, TO, i1, i2], c < s.heap.objs.size := fun c hc => by
      obtain ⟨o1, e1, _⟩ := h4
      obtain ⟨o2, e2, _⟩ := h5
      simp only [List.mem_cons, List.not_mem_nil, or_false] at hc
      rcases hc with rfl | rfl | rfl | rfl | rfl
      · exact Heap.lt_size h1
      · exact Heap.lt_size h2
      · exact Heap.lt_size h3
      · exact Heap.lt_size e1
      · exact Heap.lt_size e2
    have zT : z ≠ s.heap.objs.size := Nat.ne_of_lt (lt z (by simp))
    refine ⟨_, rfl, wpAny_letOwnedTupleGo_zip a1 fun h2' b1 b2 => ?_⟩
    have hk : ∀ c o, c ∉ [z, TI, TO, i1, i2] → s.heap.get? c = some o → h2'.get? c = some o := fun c o hc e => by
      simp only [List.mem_cons, List.not_mem_nil, or_false, not_or] at hc
      exact (b2.2 c hc.1).trans (a7 c o hc.1 hc.2.2.1 hc.2.2.2.1 hc.2.2.2.2 e)
    have I1 := I.turnT (h' := h2') (t' := s.toks) (T := s.heap.objs.size) (xs := [x, y]) (its := [ux, uy]) hf hk (Nat.le_refl _) (szl (Nat.le_of_ble_eq_true rfl)) (.cons rux (.cons ruy .nil)) ⟨_, (b2.2 _ zT.symm).trans a5, rfl, _, rfl⟩
    refine ⟨.ref s.heap.objs.size, _, I1, rfl, ⟨_, x, y, rfl, I.hok.fresh (Nat.le_refl _), rfl, fun xs' h => by rw [I.list_inj h hx]; exact ex, fun ys' h => by rw [I.list_inj h hy]; exact ey⟩, ?_, fun c hc => ?_⟩
    · exact ⟨b1, (b2.2 _ D.TIz).trans (a7 _ _ D.TIz D.TITO D.TIi1 D.TIi2 h2), ⟨_, _, (b2.2 _ D.TOz).trans a2⟩, a3.at fun o e => (b2.2 _ D.i1z).trans e, a4.at fun o e => (b2.2 _ D.i2z).trans e⟩
    · rw [upd_ne (Nat.ne_of_lt (lt c hc))]
      exact (hf c hc).1
  done := by
    intro X hP hw hK hc i pins s σ H E I hf st hg
    subst hP hw hK
    obtain ⟨xs, ys, hx, hy, hl⟩ := hg
    obtain ⟨h1, h2, ⟨u, v, h3⟩, h4, h5⟩ := st
    obtain ⟨its, rv, p, hz⟩ := I.list hx
    obtain ⟨jts, rw', q, hz'⟩ := I.list hy
    have l1 := rv.length
    have l2 := rw'.length
    refine wpAny_pyNext_zip_end (I.ok.hd hc) D h1 h2 h3 h4 h5 p.isList q.isList ?_ fun h' hk => ⟨rfl, ?_⟩
    · rcases hl with hl | hl
      · left; simp; omega
      · right; simp; omega
    · exact I.turnedL (t' := s.toks) hf fun c o hc e => by
        simp only [List.mem_cons, List.not_mem_nil, or_false, not_or] at hc
        exact hk c o hc.1 hc.2.2.1 hc.2.2.2.1 hc.2.2.2.2 e
  self := fun A i s Q E st h => wpAny_pyIter_zip st.1 h
def iZip2 (K : PySem.W.Frag) (ta : TA) : TI := fun σ H R => ta σ H fun vs H1 => ∃ a b, vs = [.ref a, .ref b] ∧ (∃ xs, SqL K H1 a xs) ∧ (∃ ys, SqL K H1 b ys) ∧ R (Itz K a b) H1
theorem bt_zip : bootBuiltins "zip" = some (.type "zip") := by first | exact PySem.boot_zip | exact PyProof.Rows.boot_zip
section
variable {X : Cx} {elts : List Expr} {kk : Nat} {tp : Pos}
theorem pi_zip2 {a b : Expr} {ta : TA} {p pos : Pos} (hg : Gl X "zip") (hm : X.mg "zip" = none) (ha : PA X [a, b] ta) (hs : starEach [a, b] X.env = [(false, eval a X.env), (false, eval b X.env)] := by rfl) (hs2 : starEach [b] X.env = [(false, eval b X.env)] := by rfl) :
    PI X (.Tuple elts kk tp) (.Call (.Name "zip" p) [a, b] [] pos) (iZip2 X.K ta) := by
  intro pins s σ H R I h
  refine Call_ (ld_blt I hg hm bt_zip (PyProof.Rows.callWith_type1 (thn (ha pos pins s σ H _ I h) fun us s1 ⟨vs, H1, I1, r1, q1⟩ => ?_) (by rw [hs, hs2]) (by rw [hs2]; rfl)))
  obtain ⟨x, y, e, ⟨xs, hx⟩, ⟨ys, hy⟩, q⟩ := q1
  subst e
  cases r1 with
  | cons r rr =>
    cases rr with
    | cons r' rr =>
      cases rr
      obtain ⟨its, rv, pl, hz⟩ := I1.list hx
      obtain ⟨jts, rw', ql, hz'⟩ := I1.list hy
      cases r
      cases r'
      have a1 : x < s1.heap.objs.size := by obtain ⟨_, e, _⟩ := pl.isList; exact Heap.lt_size e
      have a2 : y < s1.heap.objs.size := by obtain ⟨_, e, _⟩ := ql.isList; exact Heap.lt_size e
      refine call_zip_2 pl.isList ql.isList fun h' b1 b2 b3 b4 b5 b6 b7 => ?_
      have I2 : Inv X pins σ H1 { s1 with heap := h' } := I1.kept (t' := s1.toks) b7
      refine wpAny_pyIter_zip (s := { s1 with heap := h' }) b1 ⟨_, _, _, _, H1, rfl, I2, turn_zip (zipApart_new a1 a2), ⟨b1, b2, ⟨_, _, b3⟩, b4, b5⟩, fun c hc => ?_, q⟩
      have hc' : s1.heap.objs.size ≤ c := by
        simp only [List.mem_cons, List.not_mem_nil, or_false] at hc
        rcases hc with rfl | rfl | rfl | rfl | rfl
        · exact Nat.le_add_right _ _
        · exact Nat.le_add_right _ _
        · exact Nat.le_add_right _ _
        · exact Nat.le_refl _
        · exact Nat.le_add_right _ _
      exact I1.fpOk hc' (I1.hok.fresh hc')
end

/-! ### enumerate of a list -/
def Ite (K : PySem.W.Frag) (a : Addr) : It :=
  ⟨fun i H => ∃ xs x, SqL K H a xs ∧ xs[i]? = some x,
   fun i H v H' => ∃ T x, v = .ref T ∧ H T = none ∧ H' = upd H T (.tup [.int i, x]) ∧ (∀ xs, SqL K H a xs → xs[i]? = some x),
   fun i H => ∃ xs, SqL K H a xs ∧ xs.length ≤ i⟩
def iEnum (K : PySem.W.Frag) (ta : TA) : TI := fun σ H R => ta σ H fun vs H1 => ∃ a, vs = [.ref a] ∧ (∃ xs, H1 a = some (.lst xs)) ∧ R (Ite K a) H1
section
variable {X : Cx} {elts : List Expr} {kk : Nat} {tp : Pos}
end
end L2

set_option Elab.async false
set_option linter.all false
set_option maxRecDepth 100000
namespace L2
open PySem PySem.Spec PyProof.Rows
section
variable {prog : Program} {w : World} {A : Around} {E : Value → Shared → Prop} {s : Shared}
theorem min_raw {l : Addr} {vs : List Value} {ns : List Int} {Q : Value → Shared → Prop} (hh : A.handled = none) (hl : s.heap.IsList l vs.toArray) (hi : IntsAre vs ns) (hne : 0 < ns.length)
    (h : ∀ h' M (t : Tok) tk, (∀ b o, s.heap.get? b = some o → h'.get? b = some o) → M ∈ ns → (∀ a, a ∈ ns → M ≤ a) → Q (.int M t) { s with heap := h', toks := tk }) : wpAny (model prog w) A (call (.builtin "min") [.ref l]) Q E s := by
  obtain ⟨xs, e⟩ := hi.allInts.items
  have hns : ns = xs.toList.map (·.1) := by
    rw [← hi.numsOf, ← nums_intItems, ← e]
  have hsz : 0 < xs.size := by
    have h3 := hne; rw [hns, List.length_map, Array.length_toList] at h3; exact h3
  rw [e] at hl
  refine min_intList hh hl hsz fun v h' tk hv hk => ?_
  obtain ⟨t, rfl⟩ := intItems_at hv
  obtain ⟨h1, h2⟩ := argBest_lt (numAt xs) (xs.size - 1)
  refine h _ _ t tk hk ?_ fun a ha => ?_
  · rw [hns, numAt_eq]; exact PySem.getD_mem (by rw [List.length_map, Array.length_toList]; omega)
  · rw [hns] at ha
    obtain ⟨j, hj, rfl⟩ := mem_getD ha
    rw [List.length_map, Array.length_toList] at hj
    rw [← numAt_eq]; exact h2 j (by omega)
theorem sum_raw {l : Addr} {vs : List Value} {ns : List Int} {Q : Value → Shared → Prop} (hh : A.handled = none) (hl : s.heap.IsList l vs.toArray) (hi : IntsAre vs ns)
    (h : ∀ h' tk t', (∀ b o, s.heap.get? b = some o → h'.get? b = some o) → Q (.int ns.sum t') { s with heap := h', toks := tk }) : wpAny (model prog w) A (call (.builtin "sum") [.ref l]) Q E s := by
  obtain ⟨xs, hx⟩ := hi.allInts.items
  have hl' : s.heap.IsList l (intItems xs) := hx ▸ hl
  refine sum_intListG hh hl' fun h' tk t' hk => ?_
  have e1 : ns = xs.toList.map (·.1) := by
    rw [← nums_intItems, ← hx]
    exact (show numsOf vs.toArray.toList = ns from hi.numsOf).symm
  have e2 : preSum (numAt xs) xs.size = ns.sum := by
    rw [preSum_eq, List.take_of_length_le (by simp), e1]
  rw [e2]
  exact h h' tk t' hk
end
def rSum (K : PySem.W.Frag) : List V → Hp → VK → Prop := fun xs H Q => ∃ p ns, xs = [.ref p] ∧ SqL K H p (iL ns) ∧ Q (.int ns.sum) H
def rMin (K : PySem.W.Frag) : List V → Hp → VK → Prop := fun xs H Q => (∃ i j, xs = [.int i, .int j] ∧ Q (.int (if j < i then j else i)) H) ∨ ∃ p ns, xs = [.ref p] ∧ SqL K H p (iL ns) ∧ 0 < ns.length ∧ ∀ m, m ∈ ns → (∀ a ∈ ns, m ≤ a) → Q (.int m) H
def rMax (K : PySem.W.Frag) : List V → Hp → VK → Prop := fun xs H Q => (∃ i j, xs = [.int i, .int j] ∧ Q (.int (if j > i then j else i)) H) ∨ ∃ p ns, xs = [.ref p] ∧ SqL K H p (iL ns) ∧ 0 < ns.length ∧ ∀ m, m ∈ ns → (∀ a ∈ ns, a ≤ m) → Q (.int m) H
def rSorted (K : PySem.W.Frag) : List V → Hp → VK → Prop := fun xs H Q => ∃ p ns, xs = [.ref p] ∧ SqL K H p (iL ns) ∧ ns.length < 64 ∧ ∀ l ms, H l = none → ms.Perm ns → ms.Pairwise (· ≤ ·) → Q (.ref l) (upd H l (.lst (iL ms)))
section
variable {X : Cx}
theorem call_sumN (hc : X.calm = true) : CallR X (.builtin "sum") (rSum X.K) := by
  intro pins s σ H xs us Q I r h
  obtain ⟨p, ns, rfl, hq, q⟩ := h
  obtain ⟨u, rfl, ru⟩ := vals1 r
  cases ru
  obtain ⟨its, rv, pl, hz⟩ := I.list hq
  exact sum_raw (I.ok.hd hc) pl.isList (intsAre_of rv) fun h' tk t' hk => ⟨.int _, H, I.kept (t' := tk) hk, ⟨_, rfl⟩, q⟩
theorem call_minN (hc : X.calm = true) : CallR X (.builtin "min") (rMin X.K) := by
  intro pins s σ H xs us Q I r h
  rcases h with h | ⟨p, ns, rfl, hq, hne, q⟩
  · exact call_min2 hc pins s σ H xs us Q I r h
  · obtain ⟨u, rfl, ru⟩ := vals1 r
    cases ru
    obtain ⟨its, rv, pl, hz⟩ := I.list hq
    exact min_raw (I.ok.hd hc) pl.isList (intsAre_of rv) hne fun h' M t tk hk h1 h2 => ⟨.int M, H, I.kept (t' := tk) hk, ⟨_, rfl⟩, q M h1 h2⟩
end
section
variable {K : PySem.W.Frag} {H : Hp} {Q : VK} {p : Addr} {ns : List Int} {i j : Int}
theorem i_sum (h : SqL K H p (iL ns)) (q : Q (.int ns.sum) H) : rSum K [.ref p] H Q := ⟨p, ns, rfl, h, q⟩
theorem i_minL (h : SqL K H p (iL ns)) (hn : 0 < ns.length) (q : ∀ m, m ∈ ns → (∀ a ∈ ns, m ≤ a) → Q (.int m) H) : rMin K [.ref p] H Q := .inr ⟨p, ns, rfl, h, hn, q⟩
end

/-! ### loops over zip, enumerate; comprehensions by an invariant -/
section
variable {K : PySem.W.Frag} {g : TG} {tb : TS} {D : Ends} {σ : St} {H : Hp}
/-- both lists of ints, as long as the shorter one -/
theorem lp_zip {a b : Addr} {xs ys : List V} (Pv : Nat → St → Hp → Prop) (h0 : Pv 0 σ H) (hl : ∀ i σ H, Pv i σ H → SqL K H a xs ∧ SqL K H b ys)
    (hs : ∀ i x y T σ H, xs[i]? = some x → ys[i]? = some y → Pv i σ H → H T = none → g (.ref T) σ (upd H T (.tup [x, y])) fun σ2 H2 => tb { D with nx := Pv (i + 1), ct := Pv (i + 1), bk := D.nx } σ2 H2)
    (hd : ∀ σ H, Pv (min xs.length ys.length) σ H → D.nx σ H) : LoopI (Itz K a b) g tb D σ H := by
  refine ⟨fun i m σ H => m = min xs.length ys.length - i ∧ i ≤ min xs.length ys.length ∧ Pv i σ H, ⟨_, rfl, Nat.zero_le _, h0⟩, ?_⟩
  rintro i m σ H ⟨rfl, hi, p⟩
  obtain ⟨q1, q2⟩ := hl i σ H p
  by_cases hlt : i < min xs.length ys.length
  · have l1 : i < xs.length := by omega
    have l2 : i < ys.length := by omega
    refine .inr ⟨⟨xs, ys, xs[i], ys[i], q1, q2, by simp [l1], by simp [l2]⟩, Pv (i + 1), fun σ' H' p' => ⟨_, by omega, rfl, hlt, p'⟩, fun x H' y => ?_⟩
    obtain ⟨T, x1, y1, rfl, hT, rfl, ex, ey⟩ := y
    exact hs i x1 y1 T σ H (ex xs q1) (ey ys q2) p hT
  · have e : i = min xs.length ys.length := by omega
    refine .inl ⟨⟨xs, ys, q1, q2, by omega⟩, hd σ H (by rw [← e]; exact p)⟩
end
section
variable {K : PySem.W.Frag} {g : TG} {ti : TT} {te : TE} {σc : St} {H : Hp} {Q : VK}
theorem cp_list {a : Addr} {xs : List V} (Pv : Nat → List V → Hp → Prop) (h0 : Pv 0 [] H) (hl : ∀ i ys H, Pv i ys H → SqL K H a xs ∧ ys.length ≤ i) (hx : xs.length < sizeLine)
    (hs : ∀ i x ys H, xs[i]? = some x → Pv i ys H → g x σc H fun σ2 H2 => ti σ2 H2 fun b H3 => if b = true then te σ2 H3 fun y H4 => Pv (i + 1) (ys ++ [y]) H4 else Pv (i + 1) ys H3)
    (hd : ∀ l ys H, Pv xs.length ys H → H l = none → Q (.ref l) (upd H l (.lst ys))) : CompI (Itl K a) g ti te σc H Q := by
  refine ⟨fun i m ys H => m = xs.length - i ∧ i ≤ xs.length ∧ Pv i ys H, ⟨_, rfl, Nat.zero_le _, h0⟩, ?_⟩
  rintro i m ys H ⟨rfl, hi, p⟩
  obtain ⟨q, hy⟩ := hl i ys H p
  refine ⟨by omega, ?_⟩
  by_cases hlt : i < xs.length
  · refine .inr ⟨⟨xs, xs[i], q, by simp [hlt]⟩, Pv (i + 1), fun σ' H' p' => ⟨_, by omega, rfl, hlt, p'⟩, fun x H' y => ?_⟩
    obtain ⟨e, y⟩ := y
    subst e
    exact hs i x ys _ (y xs q) p
  · have e : i = xs.length := by omega
    subst e
    exact .inl ⟨⟨xs, q, Nat.le_refl _⟩, fun l hl => hd l ys H p hl⟩
end
end L2
namespace L2
open PySem PySem.Spec PyProof.Rows
theorem fr_nil {X : Cx} {sc : Scope} : FrOk X sc [] [] := trivial
theorem fr_none {X : Cx} {sc : Scope} {x : Str} {N : List Str} {fr : List (Option Nat)} (h : FrOk X sc N fr) : FrOk X sc (x :: N) (none :: fr) := h
theorem fr_some {X : Cx} {sc : Scope} {x : Str} {N : List Str} {fr : List (Option Nat)} {j : Nat} (h1 : X.N[j]? = some x) (h2 : X.env.kindOf x = some .cell ∨ X.env.kindOf x = some .free) (h3 : sc.names.lookup x = some .free) (h : FrOk X sc N fr) : FrOk X sc (x :: N) (some j :: fr) := ⟨⟨h1, h2, h3⟩, h⟩
theorem pe_globI {X : Cx} {x : Str} {n : Int} {pos : Pos} (h : ∃ t, X.mg x = some (.int n t)) (hg : Gl X x) (hd : (x == ("__debug__" : Str)) = false := by decide) : PE X (.Name x pos) (tC (.int n)) := by
  obtain ⟨t, h⟩ := h
  exact pe_glob hg h ⟨t, rfl⟩ hd
end L2
namespace L2
open PySem PySem.Spec PyProof.Rows
/-! ### the same rules with K said apart (a block's context hides it) -/
section
variable {X : Cx} (K : PySem.W.Frag) {tg l : Expr} {tl : TE} {pos p : Pos}
theorem op_eqK (hu : X.A.units + 64 < cLine) (hK : X.K = K := by rfl) : OpR X (compareOp .Eq) (rEqP K) := by subst hK; exact op_eqP hu
theorem op_neK (hu : X.A.units + 64 < cLine) (hK : X.K = K := by rfl) : OpR X (compareOp .NotEq) (rNeP K) := by subst hK; exact op_neP hu
theorem ix_K (hK : X.K = K := by rfl) : IxR X (rIxP K) := by subst hK; exact ix_P
theorem sl_listK (hK : X.K = K := by rfl) : SlR X (rSlL K) := by subst hK; exact sl_list
theorem call_lenK (hK : X.K = K := by rfl) : CallR X (.builtin "len") (rLen K) := by subst hK; exact call_lenN
theorem call_sumK (hc : X.calm = true := by rfl) (hK : X.K = K := by rfl) : CallR X (.builtin "sum") (rSum K) := by subst hK; exact call_sumN hc
theorem call_minK (hc : X.calm = true := by rfl) (hK : X.K = K := by rfl) : CallR X (.builtin "min") (rMin K) := by subst hK; exact call_minN hc
theorem call_intK : CallR X (.type "int") rIntOf := call_intN
theorem call_absK : CallR X (.builtin "abs") rAbs := call_absN
theorem pi_listK (hl : PE X l tl) (hK : X.K = K := by rfl) : PI X tg l (iList K tl) := by subst hK; exact pi_list hl
theorem pi_zip2K {elts : List Expr} {kk : Nat} {tp : Pos} {a b : Expr} {ta : TA} (hg : Gl X "zip") (hm : X.mg "zip" = none) (ha : PA X [a, b] ta) (hs : starEach [a, b] X.env = [(false, eval a X.env), (false, eval b X.env)] := by rfl) (hs2 : starEach [b] X.env = [(false, eval b X.env)] := by rfl) (hK : X.K = K := by rfl) :
    PI X (.Tuple elts kk tp) (.Call (.Name "zip" p) [a, b] [] pos) (iZip2 K ta) := by subst hK; exact pi_zip2 hg hm ha hs hs2
theorem pg_tupK {es : List Expr} {k : Nat} {t : TGs} (n : Nat) (h : PGs X es t) (hc : X.calm = true := by rfl) (hn : (assignEach es X.env).length = n := by rfl) (hst : (assignEach es X.env).findIdx? (·.1) = none := by rfl) (hK : X.K = K := by rfl) : PG X (.Tuple es k pos) (gTup K n t) := by
  subst hK; exact pg_tup hc h hn hst
theorem pt_truthK {a : Expr} {ta : TE} (ha : PE X a ta) (he : ∀ whole, isTrue a X.env whole = (do let v ← whole; standAt a.pos; holding [v] (truthy v)) := by intro _; rfl) (hK : X.K = K := by rfl) : PT X a (tTru K ta) := by
  subst hK; exact pt_truthN ha he
theorem pe_bmK {o e : Expr} {es : List Expr} {to : TE} {t : TA} {name : Str} {apos cpos : Pos} {T id : String} {r : V → List V → Hp → VK → Prop} (pa : PlainAttrs T) (slot : Slot T name id) (hty : typeOf (.builtin id) = pure (.type "method_descriptor")) (hm : MtR X id r) (ho : PE X o to) (ha : PA X (e :: es) t)
    (hbase : attributeBase o name X.env (eval o X.env) = eval o X.env := by rfl)
    (hfew : ((backTo cpos (starEach (e :: es) X.env)).all (fun x => !x.1) && (backToKw cpos (keywordEach [] X.env)).all (fun x => x.1.isSome)
      && decide ((e :: es).length + ([] : List Keyword).length + (if ([] : List Keyword).isEmpty then 0 else 1) < 30)) = true := by rfl)
    (hline : (apos.endLine == cpos.line) = true := by rfl) (hs : starEach (e :: es) X.env = (false, eval e X.env) :: starEach es X.env := by rfl) (hplain : (backTo cpos (starEach es X.env)).any (·.1) = false := by rfl) (hK : X.K = K := by rfl) :
    PE X (.Call (.Attribute o name apos) (e :: es) [] cpos) (tBM K T r to t) := by
  subst hK; exact pe_bm pa slot hty hm ho ha hbase hfew hline hs hplain
end
end L2
namespace L2
open PySem PySem.Spec PyProof.Rows
section
variable {K : PySem.W.Frag} {H : Hp} {Q : VK} {n : Nat}
theorem pd_tup {t : Addr} {ds : List PyData} {xs : List V} (h : SqT K H t xs) (p : Paired (PdAt K H n) ds xs) : PdAt K H (n + 1) (.tuple ds) (.ref t) := ⟨t, xs, rfl, h, p⟩
theorem pd_lst {t : Addr} {ds : List PyData} {xs : List V} (h : SqL K H t xs) (p : Paired (PdAt K H n) ds xs) : PdAt K H (n + 1) (.list ds) (.ref t) := ⟨t, xs, rfl, h, p⟩
theorem i_neSame {x y : V} (d : PyData) (hx : PdAt K H 9 d x) (hy : PdAt K H 9 d y) (q : Q (.bl false) H) : rNeP K x y H Q := ⟨d, d, hx, hy, by
  rw [PySem.SeqAt.eqv_refl d (pd_shape 9 d x hx).1]; exact q⟩
theorem i_eqSame {x y : V} (d : PyData) (hx : PdAt K H 9 d x) (hy : PdAt K H 9 d y) (q : Q (.bl true) H) : rEqP K x y H Q := ⟨d, d, hx, hy, by
  rw [PySem.SeqAt.eqv_refl d (pd_shape 9 d x hx).1]; exact q⟩
end
end L2
namespace L2
open PySem PySem.Spec PyProof.Rows
end L2


set_option Elab.async false
set_option linter.all false
set_option maxRecDepth 100000
namespace L2
open PySem PySem.Spec PyProof.Rows
/-- lo, lo - 1, .. (n of them) -/
def Itd (lo : Int) (n : Nat) : It := ⟨fun i _ => i < n, fun i H x H' => H' = H ∧ x = .int (lo - i), fun i _ => n ≤ i⟩
section
variable {X : Cx} {tg : Expr}
def iRng3 (ta : TA) : TI := fun σ H R => ta σ H fun vs H1 => ∃ i j : Int, vs = [.int i, .int j, .int (-1)] ∧ (-(2 ^ 62) ≤ i ∧ i < 2 ^ 62 ∧ -(2 ^ 62) ≤ j ∧ j < 2 ^ 62) ∧ R (Itd i (i - j).toNat) H1
end
section
variable {K : PySem.W.Frag} {g : TG} {tb : TS} {D : Ends} {σ : St} {H : Hp}
end
section
variable {X : Cx} (K : PySem.W.Frag)
/-- all of a list of truths -/
def rAll (K : PySem.W.Frag) : List V → Hp → VK → Prop := fun xs H Q => ∃ (p : Addr) (bs : List Bool), xs = [.ref p] ∧ SqL K H p (bs.map V.bl) ∧ Q (.bl (bs.all id)) H
/-- is, is not of truths -/
def rIsB (neg : Bool) : R2 := fun x y H Q => ∃ a b : Bool, x = .bl a ∧ y = .bl b ∧ Q (.bl (if neg then !decide (a = b) else decide (a = b))) H
theorem i_isB {a b : Bool} {H : Hp} {Q : VK} (q : Q (.bl (decide (a = b))) H) : rIsB false (.bl a) (.bl b) H Q := ⟨a, b, rfl, rfl, q⟩
theorem i_isNotB {a b : Bool} {H : Hp} {Q : VK} (q : Q (.bl (!decide (a = b))) H) : rIsB true (.bl a) (.bl b) H Q := ⟨a, b, rfl, rfl, q⟩
end
end L2

set_option Elab.async false
set_option linter.all false
set_option maxRecDepth 100000
/-! An exception on its way through the frames, with its own dict known to be none. -/
namespace L2
open PySem PySem.Spec PyProof.Rows
/-- the exception at e and the head of its trace -/
def TrD (h B : Heap) (e : Addr) (cls fl : Value) : Prop :=
  ∃ oe vs T oT ts, h.get? e = some oe ∧ (oe.cls = cls ∧ oe.dict = none) ∧ oe.data = .fields vs ∧ vs[1]? = some (.ref T) ∧ B.get? T = none ∧ T ≠ e ∧ h.get? T = some oT ∧ oT.data = .fields ts ∧ ts[3]? = some fl
structure FlyAt (B : Heap) (l : List Env) (e : Addr) (cls fl : Value) (h : Heap) : Prop where
  st : B.StaysIn h
  ne : B.get? e = none
  fr : h.FunFrames B l
  tr : TrD h B e cls fl
abbrev Fly (B : Heap) (l : List Env) (e : Addr) (cls : Value) (h : Heap) : Prop := FlyAt B l e cls .none h
section
variable {M : Model} {A : Around} {E : Value → Shared → Prop} {s : Shared} {B : Heap} {env : Env} {outer : List Env} {L e : Addr}
end
end L2

set_option Elab.async false
set_option linter.all false
set_option maxRecDepth 100000
/-! Exceptions over the layer: an exception that a call lets out, and how it leaves the frames. (Part of a road that is not finished: see NOTES.md.) -/
namespace L2
open PySem PySem.Spec PyProof.Rows
section
variable {P : Program} {w : World} {H : Hp} {h h' : Heap} {a : Addr} {o : HO}
end
/-- an exception behind a call: a new object e of class cls; B keeps all that was there but the frames -/
def CXE (P : Program) (w : World) : CXT := fun outer H s E v s' => ∃ (e : Addr) (cls : Value) (B : Heap) (H' : Hp), v = .ref e ∧ s'.os = s.os ∧ AllBare s'.gens ∧ Un (frs outer) [] H H' s.heap s'.heap ∧ HOk P w H' s'.heap ∧
  Fly B outer e cls s'.heap ∧ (∀ b o, s.heap.get? b = some o → b ∉ frs outer → ∃ o', B.get? b = some o') ∧ (∀ b, H' b ≠ none → ∃ o, B.get? b = some o) ∧ E cls none H'
section
variable {P : Program} {w : World} {K : PySem.W.Frag} {mg : Str → Option Value} {base : Heap} {N : List Str} {qual : Str} {scope : Scope} {f : Addr} {cd : Value} {A : Around} {outer : List Env} {s : Shared} {H : Hp} {E : XK}
end
end L2
namespace L2
open PySem PySem.Spec PyProof.Rows
/-! ### raise of an own class -/
/-- what holds of an own class under a built-in exception -/
structure ExcCls (K : PySem.W.Frag) (mg : Str → Option Value) (x : Str) (C : Addr) (bmB : List Value) (newId : String) : Prop where
  at_ : mg x = some (.ref C)
  obj : PySem.W.excIn K C bmB newId = true
/-- raise x(e, ..): E of the class -/
def tRaise (C : Addr) (E : XK) (t : TA) : TS := fun _ σ H => t σ H fun vs H1 => vs.length ≤ 3 ∧ E (.ref C) none H1
section
variable {P : Program} {w : World} {K : PySem.W.Frag} {mg : Str → Option Value} {base : Heap} {N : List Str} {qual : Str} {scope : Scope} {f : Addr} {cd : Value} {A : Around} {outer : List Env} {s : Shared} {H : Hp} {E : XK}
/-- a call of a def that may raise, in such a def -/
def CalleeE (P : Program) (w : World) (K : PySem.W.Frag) (mg : Str → Option Value) (base : Heap) (x : Str) (k : Nat) (sp : Sp) : Prop :=
  ∃ f fd ps, FnOk P w K mg base (CXE P w) k f fd ps sp ∧ mg x = some (.ref f) ∧ PySem.W.keepIn K (.ref f) = true ∧ Binds K fd ps []
end
end L2

set_option Elab.async false
set_option linter.all false
set_option maxRecDepth 100000
/-! A call within a try: the way of an exception up to the clause. (Not finished: the clause's suite, and calls within it, are to come; see NOTES.md.) -/
namespace L2
open PySem PySem.Spec PyProof.Rows
section
variable {X : Cx}
/-- the context within a try: what is pinned outside is kept, another wish -/
abbrev Cx.inTry (X : Cx) (pins : List (Addr × Obj)) (ξ : Value → Shared → Prop) : Cx := { X with pn := X.pn ++ pins, xe := ξ }
/-- a call whose exceptions may ask for the variables as they are -/
def tCallS (sp : Sp) (Ex : St → XK) (t : TA) : TE := fun σ H Q => t σ H fun vs H1 => sp (vs ++ []) H1 Q (Ex σ)
def PassS (X : Cx) (Ex : St → XK) : Prop := ∀ (pins : List (Addr × Obj)) (σ : St) (H : Hp) (s : Shared) (e : Value) (s' : Shared), Inv X pins σ H s → CXE X.prog X.w X.stack H s (Ex σ) e s' → X.xe e s'
/-- an exception object of the class cls lies at e -/
def ExcAt (e : Addr) (cls : Value) : Heap → Prop := fun h => ∃ o vs, h.get? e = some o ∧ o.cls = cls ∧ o.dict = none ∧ o.data = .fields vs
/-- within a clause: an exception is being handled, none is let out -/
abbrev Cx.inClause (X : Cx) (pins : List (Addr × Obj)) (e : Addr) : Cx := { X with A := X.A.mark (some (.ref e)), calm := false, pn := X.pn ++ pins, xe := fun _ _ => False }
/-- try: body, except T as x: suite (the suite ends of itself) -/
def tTry (K : PySem.W.Frag) (TC : Addr) (j : Nat) (tb : (St → XK) → TS) (ts : TS) : TS := fun D σ H =>
  tb (fun σ' cls _ H' => PySem.W.exmOne K cls (.ref TC) = some true ∧ ∀ e, H' e = none → ts { nx := fun σ2 H2 => D.nx (σ2.set j none) H2, rt := fun _ _ => False } (σ'.set j (some (.ref e))) (upd H' e (.ext (ExcAt e cls)))) D σ H
end
end L2

set_option Elab.async false
set_option linter.all false
set_option maxRecDepth 100000
/-! Calls within an except clause: a def's promise that does not ask that nothing is being handled. -/
namespace L2
open PySem PySem.Spec PyProof.Rows
/-- room for a call, whatever is being handled -/
structure RoomN (k : Nat) (A : Around) : Prop where
  dp : A.depth + 3 * k + 5 < recursionLimit
  un : A.units + 16 * k + 200 < cLine
structure FnOkN (P : Program) (w : World) (K : PySem.W.Frag) (mg : Str → Option Value) (base : Heap) (k : Nat) (f : Addr) (fd : FuncData) (ps : List Str) (sp : Sp) : Prop where
  len : ∀ vs H Q E, sp vs H Q E → vs.length = ps.length
  run : ∀ (A : Around) (outer : List Env) (s : Shared) (H : Hp) (args : Args) (us : List Value) (vs : List V) (Q : VK) (E : XK), RoomN k A → Env0 P w K mg base A outer s H → BindsTo s fd args (ps.zip us) → Vals vs us → sp vs H Q E →
    codeAny (model P w) A (.call (.ref f) args) (CR CX0 outer P w H s Q E) s
def CalleeN (P : Program) (w : World) (K : PySem.W.Frag) (mg : Str → Option Value) (base : Heap) (x : Str) (k : Nat) (sp : Sp) : Prop :=
  ∃ f fd ps, FnOkN P w K mg base k f fd ps sp ∧ mg x = some (.ref f) ∧ PySem.W.keepIn K (.ref f) = true ∧ Binds K fd ps []
/-- the context of such a def's body -/
abbrev cxN (P : Program) (w : World) (K : PySem.W.Frag) (mg : Str → Option Value) (base : Heap) (N : List Str) (qual : Str) (scope : Scope) (f : Addr) (cd : Value) (A : Around) (outer : List Env) (s : Shared) (H : Hp) (E : XK) : Cx :=
  { cxOf CX0 P w K mg base N qual scope f cd A outer s H E with calm := false, xe := fun _ _ => False }
section
variable {P : Program} {w : World} {K : PySem.W.Frag} {mg : Str → Option Value} {base : Heap}
end
section
variable {X : Cx}
end
end L2

set_option Elab.async false
set_option linter.all false
set_option maxRecDepth 100000
/-! isinstance of an exception of an own class. -/
namespace L2
open PySem PySem.Spec PyProof.Rows
/-- what isinstance asks of an own class -/
structure IsiCls (K : PySem.W.Frag) (D : Addr) : Prop where
  ga : PySem.W.findIn K (.ref D) "__getattribute__" = some (some (.builtin "BaseException.__getattribute__"))
  gt : PySem.W.findIn K (.ref D) "__getattr__" = some none
  mb : PySem.W.mroIn K D (.type "BaseException") = some true
  hd : PySem.W.hasDictIn K D = true
  ca : PySem.W.findIn K (.ref D) "__class__" = some (some (.builtin "object.__class__"))
  sp : PySem.W.specialIn K (.builtin "object.__class__") "__get__" = some (some (.builtin "getset_descriptor.__get__"))
  tk : PySem.W.takesIn K (.builtin "object.__class__") = some true
  mr : PySem.W.mroIn K D (.type "object") = some true
/-- isinstance(e, c): e an exception of an own class -/
def rIsiX (K : PySem.W.Frag) : List V → Hp → VK → Prop := fun xs H Q => ∃ (e D : Addr) (x : V) (c : Value) (b : Bool), xs = [.ref e, x] ∧ (∀ u, RelV x u → u = c) ∧ H e = some (.ext (ExcAt e (.ref D))) ∧ IsiCls K D ∧ PySem.W.kitOne K (.ref D) c = some b ∧ Q (.bl b) H
end L2

set_option Elab.async false
set_option linter.all false
set_option maxRecDepth 100000
namespace L2
open PySem PySem.Spec PyProof.Rows

/-! ### zip of three lists: the iterators at n, n+1, n+2, their tuple at n+3, the kept tuple at n+4, the zip at n+5 -/
abbrev IsTrip (h : Heap) (T : Addr) (a b c : Value) : Prop := h.get? T = some { cls := .type "tuple", data := .seq #[a, b, c] }
section
variable {prog : Program} {w : World} {A : Around} {E : Value → Shared → Prop} {s : Shared}
local macro_rules | `(tactic| walk_at "ne") => `(tactic| (show @Ne Nat _ _; omega))
end
end L2
namespace L2
open PySem PySem.Spec PyProof.Rows
local macro_rules | `(tactic| walk_at "ne") => `(tactic| (show @Ne Nat _ _; omega))
section
variable {prog : Program} {w : World} {A : Around} {E : Value → Shared → Prop} {s : Shared}
end

/-! ### the call zip(a, b, c) -/
abbrev z3H1 (h : Heap) (l1 : Addr) : Heap := h.push { cls := .type "list_iterator", data := .fields #[.ref l1, .int 0 0] }
abbrev z3H2 (h : Heap) (l1 l2 : Addr) : Heap := (z3H1 h l1).push { cls := .type "list_iterator", data := .fields #[.ref l2, .int 0 0] }
abbrev z3H3 (h : Heap) (l1 l2 l3 : Addr) : Heap := (z3H2 h l1 l2).push { cls := .type "list_iterator", data := .fields #[.ref l3, .int 0 0] }
abbrev z3H4 (h : Heap) (l1 l2 l3 : Addr) : Heap := (z3H3 h l1 l2 l3).push { cls := .type "tuple", data := .seq #[.ref h.objs.size, .ref (z3H1 h l1).objs.size, .ref (z3H2 h l1 l2).objs.size] }
abbrev z3H5 (h : Heap) (l1 l2 l3 : Addr) : Heap := (z3H4 h l1 l2 l3).push { cls := .type "tuple", data := .seq #[.none, .none, .none] }
abbrev z3H6 (h : Heap) (l1 l2 l3 : Addr) : Heap := (z3H5 h l1 l2 l3).push { cls := .type "zip", data := .fields #[.none, .bool false, .bool false, .ref (z3H3 h l1 l2 l3).objs.size, .ref (z3H4 h l1 l2 l3).objs.size] }
section
variable {prog : Program} {w : World} {A : Around} {E : Value → Shared → Prop} {s : Shared}
end
def It3 (K : PySem.W.Frag) (a b c : Addr) : It :=
  ⟨fun i H => ∃ xs ys zs x y q, SqL K H a xs ∧ SqL K H b ys ∧ SqL K H c zs ∧ xs[i]? = some x ∧ ys[i]? = some y ∧ zs[i]? = some q,
   fun i H v H' => ∃ T x y q, v = .ref T ∧ H T = none ∧ H' = upd H T (.tup [x, y, q]) ∧ (∀ xs, SqL K H a xs → xs[i]? = some x) ∧ (∀ ys, SqL K H b ys → ys[i]? = some y) ∧ ∀ zs, SqL K H c zs → zs[i]? = some q,
   fun i H => ∃ xs ys zs, SqL K H a xs ∧ SqL K H b ys ∧ SqL K H c zs ∧ (xs.length ≤ i ∨ ys.length ≤ i ∨ zs.length ≤ i)⟩
def Zip3St (n a b c : Nat) (i : Nat) (h : Heap) : Prop := IsZip h (n + 5) (n + 3) (n + 4) .none ∧ IsTrip h (n + 3) (.ref n) (.ref (n + 1)) (.ref (n + 2)) ∧ (∃ u v w, IsTrip h (n + 4) u v w) ∧ h.IsListIter n a i ∧ h.IsListIter (n + 1) b i ∧ h.IsListIter (n + 2) c i
def iZip3 (K : PySem.W.Frag) (ta : TA) : TI := fun σ H R => ta σ H fun vs H1 => ∃ a b c, vs = [.ref a, .ref b, .ref c] ∧ (∃ xs, SqL K H1 a xs) ∧ (∃ ys, SqL K H1 b ys) ∧ (∃ zs, SqL K H1 c zs) ∧ R (It3 K a b c) H1
section
variable {X : Cx} {elts : List Expr} {kk : Nat} {tp : Pos}
end
section
variable {K : PySem.W.Frag} {g : TG} {ti : TT} {te : TE} {σc : St} {H : Hp} {Q : VK}
end
end L2

set_option Elab.async false
set_option linter.all false
set_option maxRecDepth 100000
/-! Tuples: comprehensions over one, tuple(list), what isinstance says of one. -/
namespace L2
open PySem PySem.Spec PyProof.Rows
section
variable {K : PySem.W.Frag} {g : TG} {ti : TT} {te : TE} {σc : St} {H : Hp} {Q : VK}
end
def rTupOf (K : PySem.W.Frag) : List V → Hp → VK → Prop := fun xs H Q => ∃ p ys, xs = [.ref p] ∧ ((SqL K H p ys ∧ ∀ l, H l = none → Q (.ref l) (upd H l (.tup ys))) ∨ (SqT K H p ys ∧ Q (.ref p) H))
section
variable {K : PySem.W.Frag} {H : Hp} {Q : VK}
end
end L2

set_option Elab.async false
set_option linter.all false
set_option maxRecDepth 100000
/-! xs[::-1], xs.index(i), xs.insert(i, x) -/
namespace L2
open PySem PySem.Spec PyProof.Rows
section
variable {X : Cx} {e k : Expr} {te : TE} {tk : TO} {pos p2 : Pos}
def rRev (K : PySem.W.Frag) : V → Hp → VK → Prop := fun x H Q => ∃ a xs, x = .ref a ∧ SqL K H a xs ∧ ∀ p, H p = none → Q (.ref p) (upd H p (.lst xs.reverse))
def tRev (K : PySem.W.Frag) (te : TE) (tk : TO) : TE := fun σ H Q => te σ H fun x H1 => tk σ H1 fun j H2 => j = some (-1) ∧ rRev K x H2 Q
theorem pe_rev (he : PE X e te) (hk : PO X (some k) tk) : PE X (.Subscript e (.Slice none none (some k) p2) pos) (tRev X.K te tk) := by
  intro pins s σ H Q I h
  refine Subscript_ (thn (he pins s σ H _ I h) fun v s1 ⟨x, H1, I1, r1, q1⟩ => ?_)
  refine wpAny_Slice ?_
  rw [evalPart_none]
  refine wpAny_pure ?_
  refine wpAny_pure ?_
  refine thn (hk pins s1 σ H1 _ I1 q1) fun vs s3 ⟨j, H3, I3, ps, q3⟩ => ?_
  obtain ⟨rfl, a, xs, rfl, hx, q⟩ := q3
  cases r1
  have I4 : Inv X pins σ H3 { s3 with heap := s3.heap.push { cls := .type "slice", data := .fields #[.none, .none, vs] } } := I3.kept (t' := s3.toks) fun b ob q => Heap.get?_push_of_some _ q
  show wpAny (model X.prog X.w) X.A (subscriptTail e (.Slice none none (some k) p2) (.ref a) (.ref s3.heap.objs.size)) (EP X pins σ Q) X.xe { s3 with heap := s3.heap.push { cls := .type "slice", data := .fields #[.none, .none, vs] } }
  obtain ⟨its, r, ht, hz⟩ := I4.list hx
  have hlen := r.length
  refine tail_any (ops := [.ref a, .ref s3.heap.objs.size]) ht.isList.typeIs slot_list_getitem.lookup ?_ (by with_unfolding_all rfl)
  refine wpAny_getItem_list_slice ht.isList (Heap.IsSliceOf.new ..) .none .none ps (by simp) ?_ (by rw [List.size_toArray] <;> omega)
  rw [PySem.W.krv_pick]
  refine ⟨.ref _, _, I4.laid (t' := s3.toks) (o := .lst xs.reverse) (fun b ob q => Heap.get?_push_of_some _ q) (Nat.le_refl _) ?_, rfl, q _ (I4.hok.fresh (Nat.le_refl _))⟩
  exact ⟨by rw [List.length_reverse]; exact hz, _, 0, r.reverse, Heap.get?_push_size _ rfl⟩
theorem pe_revK (K : PySem.W.Frag) (he : PE X e te) (hk : PO X (some k) tk) (hK : X.K = K := by rfl) : PE X (.Subscript e (.Slice none none (some k) p2) pos) (tRev K te tk) := by subst hK; exact pe_rev he hk
end
section
variable {X : Cx}
def rIndex : V → List V → Hp → VK → Prop := fun x vs H Q => ∃ l ns k, x = .ref l ∧ vs = [.int k] ∧ H l = some (.lst (iL ns)) ∧ k ∈ ns ∧ Q (.int (ns.idxOf k : Nat)) H
def rInsert : V → List V → Hp → VK → Prop := fun x vs H Q => ∃ l xs y, x = .ref l ∧ vs = [.int 0, y] ∧ H l = some (.lst xs) ∧ xs.length < sizeLine ∧ Q .non (upd H l (.lst (y :: xs)))
end
section
variable {K : PySem.W.Frag} {H : Hp} {Q : VK}
theorem i_rev {a : Addr} {ns : List Int} (h : SqL K H a (iL ns)) (q : ∀ p, H p = none → Q (.ref p) (upd H p (.lst (iL ns.reverse)))) : some (-1 : Int) = some (-1) ∧ rRev K (.ref a) H Q := ⟨rfl, a, _, rfl, h, fun p hp => by rw [← List.map_reverse]; exact q p hp⟩
end
end L2

set_option Elab.async false
set_option linter.all false
set_option maxRecDepth 100000
/-! (a, b, ..) = a list of that length -/
namespace L2
open PySem PySem.Spec PyProof.Rows
section
variable {prog : Program} {w : World} {A : Around} {E : Value → Shared → Prop} {s : Shared}
theorem isList_ext {h h' : Heap} {l b : Addr} {items : Array Value} (x : h.IsList l items) (e : Heap.ExtBut b h h') (n : l ≠ b) : h'.IsList l items := by
  obtain ⟨o, ho, r⟩ := x
  exact ⟨o, e l o n ho, r⟩
theorem draw_list {it t : Addr} {items : Array Value} (hne : t ≠ it) : ∀ (n i : Nat) (s : Shared) (Q : List Value → Shared → Prop), s.heap.IsListIter it t i → s.heap.IsList t items → i + n ≤ items.size →
    (∀ h', h'.IsListIter it t (i + n) → Heap.SameBut it s.heap h' → Q ((items.toList.drop i).take n) { s with heap := h' }) → wpAny (model prog w) A (draw (.ref it) n) Q E s
  | 0, i, s, Q, hit, _, _, hQ => by
    show wpAny _ _ (pure []) Q E s
    exact wpAny_pure (by simpa using hQ s.heap hit (Heap.SameBut.refl ..))
  | n + 1, i, s, Q, hit, ht, hle, hQ => by
    have hlt : i < items.size := by omega
    show wpAny _ _ (pyNext (.ref it) >>= _) Q E s
    refine wpAny_bind (wpAny_pyNext_list_item hit ht (x := items[i]) (by simp [hlt]) fun h₁ hit₁ hs₁ => ?_)
    refine wpAny_bind (wpAny_holding (draw_list hne n (i + 1) _ _ hit₁ (isList_ext ht hs₁.extBut hne) (by omega) fun h₂ hit₂ hs₂ => wpAny_pure ?_))
    have hd : items.toList.drop i = items[i] :: items.toList.drop (i + 1) := by simp [List.drop_eq_getElem_cons, hlt]
    have := hQ h₂ (by rw [show i + (n + 1) = i + 1 + n by omega]; exact hit₂) (hs₁.trans hs₂)
    rw [hd, List.take_succ_cons] at this
    exact this
end
section
variable {X : Cx} {pos : Pos}
def gLst (K : PySem.W.Frag) (n : Nat) (t : TGs) : TG := fun v σ H Q => ∃ a xs, v = .ref a ∧ SqL K H a xs ∧ xs.length = n ∧ t xs σ H Q
end
end L2

set_option Elab.async false
set_option linter.all false
set_option maxRecDepth 100000
/-! (a, .., *rest) = a list -/
namespace L2
open PySem PySem.Spec PyProof.Rows
section
variable {prog : Program} {w : World} {A : Around} {E : Value → Shared → Prop} {s : Shared}
theorem unpackItems_star {t : Addr} {items : Array Value} {i : Nat} {Q : List Value → Shared → Prop} (hh : A.handled = none) (ht : s.heap.IsList t items) (hi : i ≤ items.size) (hz : items.size ≤ sizeLine)
    (hQ : ∀ h' tk, Heap.ExtBut s.heap.objs.size s.heap h' → Q (items.toList.take i ++ [.ref h'.objs.size]) { s with heap := h'.push { cls := .type "list", data := .seq (items.toList.drop i).toArray }, toks := tk }) :
    wpAny (model prog w) A (unpackItems (.ref t) (i + 1) (some i)) Q E s := by
  have hlt : t ≠ s.heap.objs.size := by obtain ⟨o, ho, _⟩ := ht; exact Nat.ne_of_lt (Heap.lt_size ho)
  have push : ∀ o, (s.heap.push o).IsList t items := fun o => by
    obtain ⟨ob, ho, r⟩ := ht
    exact ⟨ob, Heap.get?_push_of_some _ ho, r⟩
  unfold unpackItems
  refine wpAny_bind ?_
  unfold notIterableAtAll
  refine wpAny_bind (wpAny_specialOf ht.typeIs slot_list_iter.lookup ?_)
  refine wpAny_pure ?_
  simp only [Bool.false_eq_true, if_false]
  refine wpAny_bind (wpAny_holding (wpAny_pyIter_list ht ?_))
  refine wpAny_bind (wpAny_holding (draw_list hlt i 0 _ _ ⟨_, Heap.get?_push_size _ rfl, rfl, rfl⟩ (push _) (by omega) fun h₁ hit₁ hs₁ => ?_))
  have ht₁ : h₁.IsList t items := isList_ext (push _) hs₁.extBut hlt
  rw [Nat.zero_add] at hit₁
  obtain ⟨oi, hoi, _⟩ := id hit₁
  obtain ⟨ol, hol, _⟩ := id ht₁
  rw [List.drop_zero]
  have hfl : (items.toList.take i).length = i := by rw [List.length_take, Array.length_toList]; omega
  rw [if_neg (show ¬ ((items.toList.take i).length < i) by rw [hfl]; omega)]
  refine wpAny_bind (wpAny_holding (PySem.W.kun_collect (s := { s with heap := h₁ }) (T := "list_iterator") (.inr (.inr (.inl rfl))) (Walks.list (A := A.in1) hh s.heap.objs.size t hlt items) (fun j u st => st.1.typeIs) (k := i) (by omega) ⟨hit₁, ht₁⟩ (Heap.lt_size hoi) (Heap.lt_size hol) (fun h₂ tk hk => ?_) hz))
  have hrl : (items.toList.drop i).length = items.size - i := by rw [List.length_drop, Array.length_toList]
  show wpAny _ _ (if (items.toList.drop i).length < i + 1 - 1 - i then _ else _) _ _ _
  rw [if_neg (by omega)]
  show wpAny _ _ (newList ((items.toList.drop i).take ((items.toList.drop i).length - (i + 1 - 1 - i))) >>= fun d => pure (items.toList.take i ++ [d] ++ (items.toList.drop i).drop ((items.toList.drop i).length - (i + 1 - 1 - i)))) _ _ _
  have e0 : i + 1 - 1 - i = 0 := by omega
  rw [e0, Nat.sub_zero, List.take_length, List.drop_length]
  have he : Heap.ExtBut s.heap.objs.size s.heap h₂ := fun b o hb e => hk b o hb (hs₁.extBut b o hb (Heap.get?_push_of_some _ e))
  refine wpAny_bind (wpAny_newList (s := { s with heap := h₂, toks := tk }) (wpAny_pure ?_) (by rw [hrl]; omega))
  rw [List.append_nil]
  exact hQ h₂ tk he
theorem assign_Tuple_star {env : Env} {elts : List Expr} {x1} {pos : Pos} {t : Addr} {items : Array Value} {i : Nat} {Q : Unit → Shared → Prop} (hh : A.handled = none) (ht : s.heap.IsList t items) (hi : i ≤ items.size) (hz : items.size ≤ sizeLine)
    (hn : (assignEach elts env).length = i + 1) (hstar : (assignEach elts env).findIdx? (·.1) = some i)
    (h : ∀ h' tk, Heap.ExtBut s.heap.objs.size s.heap h' → wpAny (model prog w) A (assignInOrder ((assignEach elts env).map (·.2)) (items.toList.take i ++ [.ref h'.objs.size])) Q E { s with heap := h'.push { cls := .type "list", data := .seq (items.toList.drop i).toArray }, toks := tk }) :
    wpAny (model prog w) A (assign (.Tuple elts x1 pos) env (.ref t)) Q E s := by
  rw [assign_Tuple]
  refine wpAny_bind (wpAny_standAt ?_)
  unfold unpack
  rw [hn, hstar]
  exact wpAny_bind (wpAny_holding (unpackItems_star hh ht hi hz h))
end
section
variable {X : Cx} {pos : Pos}
/-- the last target takes what is left, as a new list -/
def gStar (K : PySem.W.Frag) (n : Nat) (t : TGs) : TG := fun v σ H Q => ∃ a xs, v = .ref a ∧ SqL K H a xs ∧ n ≤ xs.length ∧ ∀ p, H p = none → t (xs.take n ++ [.ref p]) σ (upd H p (.lst (xs.drop n))) Q
theorem pg_star {es : List Expr} {k : Nat} {t : TGs} {n : Nat} (hc : X.calm = true) (h : PGs X es t)
    (hn : (assignEach es X.env).length = n + 1 := by rfl) (hst : (assignEach es X.env).findIdx? (·.1) = some n := by rfl) : PG X (.Tuple es k pos) (gStar X.K n t) := by
  intro pins s σ H v u Q I r hw
  obtain ⟨a, xs, e1, hq, hl, hw⟩ := hw
  subst e1
  cases r
  obtain ⟨its, rv, ht, hz⟩ := I.list hq
  have hlen : its.length = xs.length := rv.length.symm
  refine assign_Tuple_star (I.ok.hd hc) ht.isList (by rw [List.size_toArray]; omega) (by rw [List.size_toArray]; omega) hn hst fun h' tk hx => ?_
  have I1 : Inv X pins σ H { s with heap := h', toks := tk } := I.kept (t' := tk) fun b o e => hx b o (Nat.ne_of_lt (Heap.lt_size e)) e
  have I2 := I1.laid (t' := tk) (o := .lst (xs.drop n)) (h' := h'.push { cls := .type "list", data := .seq (its.drop n).toArray }) (fun b ob q => Heap.get?_push_of_some _ q) (Nat.le_refl _) ?_
  · exact h pins _ σ _ _ _ Q I2 (by simpa using (rv.take n).append (.cons (show RelV (.ref h'.objs.size) (.ref h'.objs.size) from rfl) .nil)) (hw _ (I1.hok.fresh (Nat.le_refl _)))
  · exact ⟨by rw [List.length_drop]; omega, _, 0, rv.drop n, Heap.get?_push_size _ rfl⟩
theorem pg_starK (K : PySem.W.Frag) {es : List Expr} {k : Nat} {t : TGs} (n : Nat) (h : PGs X es t) (hc : X.calm = true := by rfl) (hn : (assignEach es X.env).length = n + 1 := by rfl) (hst : (assignEach es X.env).findIdx? (·.1) = some n := by rfl) (hK : X.K = K := by rfl) : PG X (.Tuple es k pos) (gStar K n t) := by
  subst hK; exact pg_star hc h hn hst
theorem pgs_star {e : Expr} {es : List Expr} {t : TG} {u : TGs} {p : Pos} (h1 : PG X e t) (h2 : PGs X es u) : PGs X (.Starred e p :: es) (gCons t u) := by
  intro pins s σ H vs us Q I r h
  obtain ⟨v, vr, e1, h⟩ := h
  subst e1
  cases r with
  | cons r rr =>
    show wpAny _ _ (assignInOrder (assign e X.env :: (assignEach es X.env).map (·.2)) _) _ _ s
    refine assignInOrder_cons (thn (h1 pins s σ H _ _ _ I r h) fun _ s1 ⟨σ1, H1, I1, q1⟩ => ?_)
    exact h2 pins s1 σ1 H1 _ _ Q I1 rr q1
end
end L2

set_option Elab.async false
set_option linter.all false
namespace L2
open PySem PySem.Spec PyProof.Rows
/-! ### a comprehension within the block of another one -/
theorem nest_free {X : Cx} {scope0 : Scope} {C : Addr} {N : List Str} {s₂ : Shared} {H₂ : Hp} {ex : List Addr} {x : Str} (h : scope0.names.lookup x = some .free) : (cxC X scope0 C N s₂ H₂ ex).env.kindOf x = some .cell ∨ (cxC X scope0 C N s₂ H₂ ex).env.kindOf x = some .free := relabel_free h
theorem nest_frees {X : Cx} {scope0 scope : Scope} {C : Addr} {N : List Str} {s₂ : Shared} {H₂ : Hp} {ex : List Addr} (h : ∀ y ∈ scope.names, y.2 = .free → scope0.names.lookup y.1 = some .free) :
    ∀ y ∈ scope.names, y.2 = .free → (cxC X scope0 C N s₂ H₂ ex).env.kindOf y.1 = some .cell ∨ (cxC X scope0 C N s₂ H₂ ex).env.kindOf y.1 = some .free := fun y hy e => nest_free (h y hy e)
end L2

set_option Elab.async false
set_option linter.all false
namespace M
/-! ### wheels: plain mathematics -/
def drag (p a x : Int) : Int := if x < a - p then a - p else if a + p < x then a + p else x
def isTr (ps : List Int) : Prop := 1 ≤ ps.length ∧ ps.length ≤ 12 ∧ ∀ p ∈ ps, 0 ≤ p
def keeps : List Int → Int → List Int → Prop
  | p :: ps, a, x :: xs => (x - a ≤ p ∧ a - x ≤ p) ∧ keeps ps x xs
  | _, _, _ => True
def stand (ps : List Int) (a : Int) (xs : List Int) : Prop := xs.length = ps.length ∧ keeps ps a xs
def dragAll : List Int → List Int → Int → List Int
  | p :: ps, x :: xs, a => drag p a x :: dragAll ps xs (drag p a x)
  | _, _, _ => []
def lastOf : Int → List Int → Int
  | a, [] => a
  | _, x :: xs => lastOf x xs
theorem dropc {α : Type} {xs : List α} {i : Nat} {x : α} (h : xs[i]? = some x) : xs.drop i = x :: xs.drop (i + 1) := by
  obtain ⟨hl, e⟩ := List.getElem?_eq_some_iff.mp h
  rw [List.drop_eq_getElem_cons hl, e]
theorem lastOf_snoc (a x : Int) : ∀ xs : List Int, lastOf a (xs ++ [x]) = x := by
  intro xs
  induction xs generalizing a with
  | nil => rfl
  | cons y ys ih => exact ih y
theorem keeps_snoc {p x : Int} : ∀ (ps xs : List Int) (a : Int), ps.length = xs.length → keeps ps a xs → x - lastOf a xs ≤ p → lastOf a xs - x ≤ p → keeps (ps ++ [p]) a (xs ++ [x])
  | [], [], a, _, _, h1, h2 => ⟨⟨h1, h2⟩, trivial⟩
  | q :: ps, y :: ys, a, hl, h, h1, h2 => ⟨h.1, keeps_snoc ps ys y (by simpa using hl) h.2 h1 h2⟩
  | [], _ :: _, _, hl, _, _, _ => by simp at hl
  | _ :: _, [], _, hl, _, _, _ => by simp at hl
theorem dragAll_length : ∀ (ps xs : List Int) (a : Int), (dragAll ps xs a).length = min ps.length xs.length
  | [], xs, a => by simp [dragAll]
  | p :: ps, [], a => by simp [dragAll]
  | p :: ps, x :: xs, a => by simp [dragAll, dragAll_length ps xs]
theorem dragAll_nil (xs : List Int) (a : Int) : dragAll [] xs a = [] := by simp [dragAll]
theorem dragAll_nil2 (ps : List Int) (a : Int) : dragAll ps [] a = [] := by cases ps <;> simp [dragAll]
/-! ### rows; wheels by themselves -/
def runs (ps : List Int) : List Int → List Int → List (List Int)
  | _, [] => []
  | ws, c :: row => dragAll ps ws c :: runs ps (dragAll ps ws c) row
def hung (d : Int) : Int → List Int → List Int
  | _, [] => []
  | x, c :: row => drag d c x :: hung d (drag d c x) row
def alone : Int → List Int → List Int → Int → List Int
  | d, p :: ps, x :: xs, a => drag (d + p) a x :: alone (d + p) ps xs a
  | _, _, _, _ => []
def depths : Int → List Int → List Int
  | _, [] => []
  | d, p :: ps => (d + p) :: depths (d + p) ps
/-! ### rows cut, rows filled -/
def endW (ps : List Int) : List Int → List Int → List Int
  | ws, [] => ws
  | ws, c :: row => endW ps (dragAll ps ws c) row
/-- places on the way, in order -/
def Path (a c : Int) : List Int → Prop
  | [] => True
  | s :: ss => ((a ≤ s ∧ s ≤ c) ∨ (c ≤ s ∧ s ≤ a)) ∧ Path s c ss
/-- a row, filled; the marks tell where the row's own places stand -/
def FillOk (a : Int) (row : List Int) (i : Nat) (fs ms : List Int) : Prop := ∀ ps ws : List Int, (∀ p ∈ ps, 0 ≤ p) → keeps ps a ws →
  endW ps ws fs = endW ps ws (row.take i) ∧ ∀ k : Nat, k < i → ∃ m : Nat, ms[k]? = some (m : Int) ∧ m < fs.length ∧ (runs ps ws fs)[m]? = (runs ps ws row)[k]?
def apps : Nat → List (List Int) → List (List Int)
  | _, [] => []
  | k, x :: xs => (x ++ [(k : Int)]) :: apps (k + 1) xs
theorem take_snoc_get {α : Type} {xs : List α} {j : Nat} {x : α} (h : xs[j]? = some x) : xs.take (j + 1) = xs.take j ++ [x] := by
  rw [List.take_add_one, h]; rfl
end M

set_option Elab.async false
set_option linter.all false
namespace M
/-! ### a piece grabbed: those on both sides are dragged -/
def gAll (ps L : List Int) (m : Nat) (c : Int) : List Int := (dragAll (ps.take m).reverse (L.take m).reverse c).reverse ++ c :: dragAll (ps.drop m) (L.drop (m + 1)) c
theorem dragAll_rec : ∀ (ps xs : List Int) (a : Int) (i : Nat) (p x y : Int), ps[i]? = some p → xs[i]? = some x → (a :: dragAll ps xs a)[i]? = some y → (dragAll ps xs a)[i]? = some (drag p y x)
  | p0 :: ps, x0 :: xs, a, 0, p, x, y, hp, hx, hy => by
    simp at hp hx hy
    subst hp hx hy
    simp [dragAll]
  | p0 :: ps, x0 :: xs, a, i + 1, p, x, y, hp, hx, hy => by
    simp only [dragAll, List.getElem?_cons_succ] at hp hx hy ⊢
    exact dragAll_rec ps xs _ i p x y hp hx hy
  | [], _, a, i, p, x, y, hp, _, _ => by simp at hp
  | _ :: _, [], a, i, p, x, y, _, hx, _ => by simp at hx
section
variable {ps L : List Int} {m : Nat} {c : Int}
theorem gA_len (hl : L.length = ps.length + 1) (hm : m ≤ ps.length) : (dragAll (ps.take m).reverse (L.take m).reverse c).reverse.length = m := by
  simp only [List.length_reverse, dragAll_length, List.length_take]
  omega
theorem gB_len (hl : L.length = ps.length + 1) (hm : m ≤ ps.length) : (dragAll (ps.drop m) (L.drop (m + 1)) c).length = ps.length - m := by
  rw [dragAll_length, List.length_drop, List.length_drop]
  omega
theorem gAll_len (hl : L.length = ps.length + 1) (hm : m ≤ ps.length) : (gAll ps L m c).length = L.length := by
  unfold gAll
  rw [List.length_append, gA_len hl hm, List.length_cons, gB_len hl hm]
  omega
theorem gAll_at (hl : L.length = ps.length + 1) (hm : m ≤ ps.length) : (gAll ps L m c)[m]? = some c := by
  unfold gAll
  rw [List.getElem?_append_right (by rw [gA_len hl hm]; omega), gA_len hl hm, Nat.sub_self]
  rfl
theorem gAll_up (hl : L.length = ps.length + 1) (hm : m ≤ ps.length) {k : Nat} (hk : m < k) {p x y : Int} (hp : ps[k - 1]? = some p) (hx : L[k]? = some x) (hy : (gAll ps L m c)[k - 1]? = some y) : (gAll ps L m c)[k]? = some (drag p y x) := by
  have hlen := gA_len (c := c) hl hm
  unfold gAll at hy ⊢
  rw [List.getElem?_append_right (by rw [hlen]; omega), hlen] at hy ⊢
  obtain ⟨i, rfl⟩ : ∃ i, k = m + 1 + i := ⟨k - (m + 1), by omega⟩
  rw [show m + 1 + i - m = i + 1 by omega, List.getElem?_cons_succ]
  rw [show m + 1 + i - 1 - m = i by omega] at hy
  refine dragAll_rec _ _ _ i p x y ?_ ?_ hy
  · rw [List.getElem?_drop, ← hp]
    congr 1
    omega
  · rw [List.getElem?_drop, ← hx]
theorem gAll_down (hl : L.length = ps.length + 1) (hm : m ≤ ps.length) {k : Nat} (hk : k < m) {p x y : Int} (hp : ps[k]? = some p) (hx : L[k]? = some x) (hy : (gAll ps L m c)[k + 1]? = some y) : (gAll ps L m c)[k]? = some (drag p y x) := by
  have hlen := gA_len (c := c) hl hm
  have hD : (dragAll (ps.take m).reverse (L.take m).reverse c).length = m := by rw [← List.length_reverse]; exact hlen
  have hP : (ps.take m).reverse[m - 1 - k]? = some p := by
    rw [List.getElem?_reverse (by rw [List.length_take]; omega), List.length_take, Nat.min_eq_left hm, List.getElem?_take, if_pos (by omega), ← hp]
    congr 1
    omega
  have hX : (L.take m).reverse[m - 1 - k]? = some x := by
    rw [List.getElem?_reverse (by rw [List.length_take]; omega), List.length_take, Nat.min_eq_left (by omega), List.getElem?_take, if_pos (by omega), ← hx]
    congr 1
    omega
  have hget : ∀ j, j < m → (gAll ps L m c)[j]? = (dragAll (ps.take m).reverse (L.take m).reverse c)[m - 1 - j]? := fun j hj => by
    unfold gAll
    rw [List.getElem?_append_left (by rw [hlen]; exact hj), List.getElem?_reverse (by rw [hD]; exact hj), hD]
  rw [hget k hk]
  refine dragAll_rec _ _ _ (m - 1 - k) p x y hP hX ?_
  by_cases e : k + 1 = m
  · rw [e, gAll_at hl hm] at hy
    rw [show m - 1 - k = 0 by omega]
    exact hy
  · rw [hget (k + 1) (by omega)] at hy
    rw [show m - 1 - k = (m - 1 - (k + 1)) + 1 by omega, List.getElem?_cons_succ]
    exact hy
end
theorem keeps_of : ∀ {ps xs : List Int} {a : Int}, (∀ (k : Nat) (p x y : Int), ps[k]? = some p → (a :: xs)[k]? = some y → xs[k]? = some x → x - y ≤ p ∧ y - x ≤ p) → keeps ps a xs
  | p :: ps, x :: xs, a, h => by
    refine ⟨h 0 p x a rfl rfl rfl, keeps_of fun k q z y h1 h2 h3 => ?_⟩
    exact h (k + 1) q z y (by simpa using h1) (by simpa using h2) (by simpa using h3)
  | [], _, _, _ => by simp [keeps]
  | _ :: _, [], _, _ => by simp [keeps]
theorem drag_near {p a x : Int} (h : 0 ≤ p) : drag p a x - a ≤ p ∧ a - drag p a x ≤ p := by unfold drag; omega
theorem gAll_stand {ps L : List Int} {m : Nat} {c hd : Int} {tl : List Int} (hl : L.length = ps.length + 1) (hm : m ≤ ps.length) (hp : ∀ p ∈ ps, 0 ≤ p) (e : gAll ps L m c = hd :: tl) : stand ps hd tl := by
  have hlen := gAll_len (c := c) hl hm
  rw [e] at hlen
  refine ⟨by simp at hlen; omega, keeps_of fun k p x y h1 h2 h3 => ?_⟩
  have hp0 := hp p (List.mem_of_getElem? h1)
  have hk : k < ps.length := (List.getElem?_eq_some_iff.mp h1).1
  have g1 : (gAll ps L m c)[k + 1]? = some x := by rw [e, List.getElem?_cons_succ]; exact h3
  have g0 : (gAll ps L m c)[k]? = some y := by rw [e]; exact h2
  by_cases q : k < m
  · have hx : L[k]? = some (L[k]'(by omega)) := List.getElem?_eq_getElem _
    have := gAll_down (c := c) hl hm q h1 hx g1
    rw [g0] at this
    have e2 := Option.some.inj this
    have := drag_near (a := x) (x := L[k]'(by omega)) hp0
    rw [← e2] at this
    omega
  · have hx : L[k + 1]? = some (L[k + 1]'(by omega)) := List.getElem?_eq_getElem _
    have := gAll_up (c := c) hl hm (k := k + 1) (by omega) (p := p) (y := y) (by simpa using h1) hx (by simpa using g0)
    rw [g1] at this
    have e2 := Option.some.inj this
    have := drag_near (a := y) (x := L[k + 1]'(by omega)) hp0
    rw [← e2] at this
    omega
theorem gAll_cons {ps L : List Int} {m : Nat} {c : Int} (hl : L.length = ps.length + 1) (hm : m ≤ ps.length) : ∃ hd tl, gAll ps L m c = hd :: tl := by
  have := gAll_len (c := c) hl hm
  cases h : gAll ps L m c with
  | nil => rw [h] at this; simp at this; omega
  | cons hd tl => exact ⟨hd, tl, rfl⟩
/-- the stands behind each grab -/
def gRun (ps : List Int) : List Int → List (Int × Int) → List (List Int)
  | _, [] => []
  | L, g :: r => gAll ps L (g.1 + 1).toNat g.2 :: gRun ps (gAll ps L (g.1 + 1).toNat g.2) r
def gEnd (ps : List Int) : List Int → List (Int × Int) → List Int
  | L, [] => L
  | L, g :: r => gEnd ps (gAll ps L (g.1 + 1).toNat g.2) r
theorem gEnd_app (ps : List Int) : ∀ (r1 r2 : List (Int × Int)) (L : List Int), gEnd ps L (r1 ++ r2) = gEnd ps (gEnd ps L r1) r2
  | [], _, _ => rfl
  | g :: r1, r2, L => by simp only [List.cons_append, gEnd, gEnd_app ps r1 r2]
theorem gRun_app (ps : List Int) : ∀ (r1 r2 : List (Int × Int)) (L : List Int), gRun ps L (r1 ++ r2) = gRun ps L r1 ++ gRun ps (gEnd ps L r1) r2
  | [], _, _ => rfl
  | g :: r1, r2, L => by simp only [List.cons_append, gRun, gEnd, gRun_app ps r1 r2]
theorem gRun_len (ps : List Int) : ∀ (r : List (Int × Int)) (L : List Int), (gRun ps L r).length = r.length
  | [], _ => rfl
  | g :: r, L => by simp only [gRun, List.length_cons, gRun_len ps r]
theorem gEnd_len {ps : List Int} : ∀ {r : List (Int × Int)} {L : List Int}, L.length = ps.length + 1 → (∀ g ∈ r, -1 ≤ g.1 ∧ g.1 < ps.length) → (gEnd ps L r).length = ps.length + 1
  | [], L, h, _ => h
  | g :: r, L, h, hv => by
    have := hv g List.mem_cons_self
    exact gEnd_len (r := r) (L := gAll ps L (g.1 + 1).toNat g.2) (by rw [gAll_len h (by omega)]; exact h) fun x hx => hv x (List.mem_cons_of_mem _ hx)
end M

set_option Elab.async false
set_option linter.all false
namespace M
theorem keeps_get : ∀ {ps xs : List Int} {a : Int}, keeps ps a xs → ∀ (k : Nat) (p x y : Int), ps[k]? = some p → (a :: xs)[k]? = some y → xs[k]? = some x → x - y ≤ p ∧ y - x ≤ p
  | p0 :: ps, x0 :: xs, a, h, 0, p, x, y, h1, h2, h3 => by
    simp at h1 h2 h3
    subst h1 h2 h3
    exact h.1
  | p0 :: ps, x0 :: xs, a, h, k + 1, p, x, y, h1, h2, h3 => keeps_get h.2 k p x y (by simpa using h1) (by simpa using h2) (by simpa using h3)
  | [], _, _, _, k, p, x, y, h1, _, _ => by simp at h1
  | _ :: _, [], _, _, k, p, x, y, _, _, h3 => by simp at h3
theorem drag_in {p a x : Int} (h1 : x - a ≤ p) (h2 : a - x ≤ p) : drag p a x = x := by unfold drag; omega
theorem drag_sh (p a x b : Int) : drag p (a + b) (x + b) = drag p a x + b := by unfold drag; omega
theorem drag_ov (p a x : Int) (h : 0 ≤ p) : drag p (0 - a) (0 - x) = 0 - drag p a x := by unfold drag; omega
theorem drag_less {p a x y : Int} (h0 : 0 ≤ p) (h1 : x - y ≤ p) (h2 : y - x ≤ p) : (drag p a x - x).natAbs ≤ (a - y).natAbs := by unfold drag; omega
theorem dragAll_sh (b : Int) : ∀ (ps xs : List Int) (a : Int), dragAll ps (xs.map (· + b)) (a + b) = (dragAll ps xs a).map (· + b)
  | [], _, _ => by simp [dragAll]
  | _ :: _, [], _ => by simp [dragAll]
  | p :: ps, x :: xs, a => by
    simp only [List.map_cons, dragAll]
    rw [drag_sh, dragAll_sh b ps xs]
theorem dragAll_ov : ∀ (ps xs : List Int) (a : Int), (∀ p ∈ ps, 0 ≤ p) → dragAll ps (xs.map (0 - ·)) (0 - a) = (dragAll ps xs a).map (0 - ·)
  | [], _, _, _ => by simp [dragAll]
  | _ :: _, [], _, _ => by simp [dragAll]
  | p :: ps, x :: xs, a, h => by
    simp only [List.map_cons, dragAll]
    rw [drag_ov _ _ _ (h p List.mem_cons_self), dragAll_ov ps xs _ fun q hq => h q (List.mem_cons_of_mem _ hq)]
theorem gAll_sh (b : Int) (ps L : List Int) (m : Nat) (c : Int) : gAll ps (L.map (· + b)) m (c + b) = (gAll ps L m c).map (· + b) := by
  unfold gAll
  rw [← List.map_take, ← List.map_drop, ← List.map_reverse, dragAll_sh, dragAll_sh, List.map_append, List.map_cons, List.map_reverse]
theorem gAll_ov (ps L : List Int) (m : Nat) (c : Int) (h : ∀ p ∈ ps, 0 ≤ p) : gAll ps (L.map (0 - ·)) m (0 - c) = (gAll ps L m c).map (0 - ·) := by
  unfold gAll
  rw [← List.map_take, ← List.map_drop, ← List.map_reverse, dragAll_ov _ _ _ fun p hp => h p (List.mem_of_mem_take (List.mem_reverse.mp hp)), dragAll_ov _ _ _ fun p hp => h p (List.mem_of_mem_drop hp), List.map_append, List.map_cons, List.map_reverse]
theorem gAll_rev {ps L : List Int} {m : Nat} (c : Int) (hl : L.length = ps.length + 1) (hm : m ≤ ps.length) : gAll ps.reverse L.reverse (ps.length - m) c = (gAll ps L m c).reverse := by
  unfold gAll
  have e1 : ps.reverse.take (ps.length - m) = (ps.drop m).reverse := by rw [List.take_reverse]; congr 2; omega
  have e2 : ps.reverse.drop (ps.length - m) = (ps.take m).reverse := by rw [List.drop_reverse]; congr 2; omega
  have e3 : L.reverse.take (ps.length - m) = (L.drop (m + 1)).reverse := by rw [List.take_reverse]; congr 2; omega
  have e4 : L.reverse.drop (ps.length - m + 1) = (L.take m).reverse := by rw [List.drop_reverse]; congr 2; omega
  rw [e1, e2, e3, e4, List.reverse_reverse, List.reverse_reverse, List.reverse_append, List.reverse_cons, List.reverse_reverse]
  simp
theorem gRun_sh (b : Int) (ps : List Int) : ∀ (gs : List (Int × Int)) (L : List Int), gRun ps (L.map (· + b)) (gs.map fun g => (g.1, g.2 + b)) = (gRun ps L gs).map fun R => R.map (· + b)
  | [], _ => rfl
  | g :: gs, L => by
    simp only [List.map_cons, gRun]
    rw [gAll_sh, gRun_sh b ps gs]
theorem gRun_ov (ps : List Int) (h : ∀ p ∈ ps, 0 ≤ p) : ∀ (gs : List (Int × Int)) (L : List Int), gRun ps (L.map (0 - ·)) (gs.map fun g => (g.1, 0 - g.2)) = (gRun ps L gs).map fun R => R.map (0 - ·)
  | [], _ => rfl
  | g :: gs, L => by
    simp only [List.map_cons, gRun]
    rw [gAll_ov _ _ _ _ h, gRun_ov ps h gs]
theorem gRun_rev (ps : List Int) : ∀ (gs : List (Int × Int)) (L : List Int), L.length = ps.length + 1 → (∀ g ∈ gs, -1 ≤ g.1 ∧ g.1 < ps.length) →
    gRun ps.reverse L.reverse (gs.map fun g => ((ps.length : Int) - 2 - g.1, g.2)) = (gRun ps L gs).map List.reverse
  | [], _, _, _ => rfl
  | g :: gs, L, hl, hg => by
    have h := hg g List.mem_cons_self
    simp only [List.map_cons, gRun]
    rw [show ((ps.length : Int) - 2 - g.1 + 1).toNat = ps.length - (g.1 + 1).toNat by omega, gAll_rev _ hl (by omega), gRun_rev ps gs _ (by rw [gAll_len hl (by omega)]; exact hl) fun x hx => hg x (List.mem_cons_of_mem _ hx)]
theorem stand_get {ps ws : List Int} {h : Int} (hs : stand ps h ws) {k : Nat} {p x y : Int} (h1 : ps[k]? = some p) (h2 : (h :: ws)[k]? = some y) (h3 : (h :: ws)[k + 1]? = some x) : x - y ≤ p ∧ y - x ≤ p :=
  keeps_get hs.2 k p x y h1 h2 (by simpa using h3)
theorem stand_of {ps ws : List Int} {h : Int} (hl : ws.length = ps.length) (f : ∀ (k : Nat) (p x y : Int), ps[k]? = some p → (h :: ws)[k]? = some y → (h :: ws)[k + 1]? = some x → x - y ≤ p ∧ y - x ≤ p) : stand ps h ws :=
  ⟨hl, keeps_of fun k p x y h1 h2 h3 => f k p x y h1 h2 (by simpa using h3)⟩
theorem stand_rev {ps ws vs : List Int} {h e : Int} (hs : stand ps h ws) (he : (h :: ws).reverse = e :: vs) : stand ps.reverse e vs := by
  have hl := hs.1
  have hlen := congrArg List.length he
  simp at hlen
  refine stand_of (by simp; omega) fun k p x y h1 h2 h3 => ?_
  rw [← he] at h2 h3
  have hk : k < ps.length := by have := (List.getElem?_eq_some_iff.mp h1).1; simpa using this
  rw [List.getElem?_reverse (by omega)] at h1
  rw [List.getElem?_reverse (by simp; omega)] at h2 h3
  have q := stand_get hs (k := ps.length - 1 - k) (p := p) (x := y) (y := x) h1 (by rw [← h3]; congr 1; simp; omega) (by rw [← h2]; congr 1; simp; omega)
  exact ⟨q.2, q.1⟩
theorem stand_sh {ps ws : List Int} {h : Int} (b : Int) (hs : stand ps h ws) : stand ps (h + b) (ws.map (· + b)) := by
  refine stand_of (by simpa using hs.1) fun k p x y h1 h2 h3 => ?_
  rw [← List.map_cons (f := (· + b)), List.getElem?_map] at h2 h3
  obtain ⟨y0, e2, rfl⟩ := Option.map_eq_some_iff.mp h2
  obtain ⟨x0, e3, rfl⟩ := Option.map_eq_some_iff.mp h3
  have := stand_get hs h1 e2 e3
  omega
theorem stand_ov {ps ws : List Int} {h : Int} (hs : stand ps h ws) : stand ps (0 - h) (ws.map (0 - ·)) := by
  refine stand_of (by simpa using hs.1) fun k p x y h1 h2 h3 => ?_
  rw [← List.map_cons (f := (0 - ·)), List.getElem?_map] at h2 h3
  obtain ⟨y0, e2, rfl⟩ := Option.map_eq_some_iff.mp h2
  obtain ⟨x0, e3, rfl⟩ := Option.map_eq_some_iff.mp h3
  have := stand_get hs h1 e2 e3
  omega
section
variable {ps ws : List Int} {h : Int} {m : Nat} {c : Int}
/-- grabbed where it lies, nothing moves -/
theorem gAll_stay (hs : stand ps h ws) (hm : m ≤ ps.length) {v : Int} (hv : (h :: ws)[m]? = some v) : gAll ps (h :: ws) m v = h :: ws := by
  have hl : (h :: ws).length = ps.length + 1 := by simp [hs.1]
  have up : ∀ d k, k = m + d → k ≤ ps.length → (gAll ps (h :: ws) m v)[k]? = (h :: ws)[k]? := by
    intro d
    induction d with
    | zero => intro k e hk; rw [e, Nat.add_zero, gAll_at hl hm, hv]
    | succ d ih =>
      intro k e hk
      have h1 := ih (k - 1) (by omega) (by omega)
      obtain ⟨y, hy⟩ : ∃ y, (h :: ws)[k - 1]? = some y := ⟨_, List.getElem?_eq_getElem (by omega)⟩
      obtain ⟨x, hx⟩ : ∃ x, (h :: ws)[k]? = some x := ⟨_, List.getElem?_eq_getElem (by omega)⟩
      obtain ⟨p, hp⟩ : ∃ p, ps[k - 1]? = some p := ⟨_, List.getElem?_eq_getElem (by omega)⟩
      have q := stand_get hs hp hy (by rw [show k - 1 + 1 = k by omega]; exact hx)
      rw [gAll_up hl hm (by omega) hp hx (h1.trans hy), drag_in q.1 q.2, hx]
  have dn : ∀ d k, k + d = m → (gAll ps (h :: ws) m v)[k]? = (h :: ws)[k]? := by
    intro d
    induction d with
    | zero => intro k e; rw [show k = m by omega, gAll_at hl hm, hv]
    | succ d ih =>
      intro k e
      have h1 := ih (k + 1) (by omega)
      obtain ⟨y, hy⟩ : ∃ y, (h :: ws)[k + 1]? = some y := ⟨_, List.getElem?_eq_getElem (by omega)⟩
      obtain ⟨x, hx⟩ : ∃ x, (h :: ws)[k]? = some x := ⟨_, List.getElem?_eq_getElem (by omega)⟩
      obtain ⟨p, hp⟩ : ∃ p, ps[k]? = some p := ⟨_, List.getElem?_eq_getElem (by omega)⟩
      have q := stand_get hs hp hx hy
      rw [gAll_down hl hm (by omega) hp hx (h1.trans hy), drag_in q.2 q.1, hx]
  refine List.ext_getElem? fun k => ?_
  by_cases hk : k ≤ ps.length
  · by_cases z : m ≤ k
    · exact up (k - m) k (by omega) hk
    · exact dn (m - k) k (by omega)
  · rw [List.getElem?_eq_none (by rw [gAll_len hl hm]; omega), List.getElem?_eq_none (by omega)]
/-- how far each goes -/
def farL (L G : List Int) : List Int := List.zipWith (fun a b => ((a - b).natAbs : Int)) L G
theorem farL_get {L G : List Int} {k : Nat} {a b : Int} (h1 : L[k]? = some a) (h2 : G[k]? = some b) : (farL L G)[k]? = some ((a - b).natAbs : Int) := by
  unfold farL
  rw [List.getElem?_zipWith, h1, h2]
theorem far_up (hs : stand ps h ws) (hp0 : ∀ p ∈ ps, 0 ≤ p) (hm : m ≤ ps.length) {k : Nat} (hk : m ≤ k) {f g : Int} (h1 : (farL (h :: ws) (gAll ps (h :: ws) m c))[k]? = some f) (h2 : (farL (h :: ws) (gAll ps (h :: ws) m c))[k + 1]? = some g) : g ≤ f := by
  have hl : (h :: ws).length = ps.length + 1 := by simp [hs.1]
  have hgl := gAll_len (c := c) hl hm
  have hk2 : k + 1 < ps.length + 1 := by
    have := (List.getElem?_eq_some_iff.mp h2).1
    unfold farL at this
    rw [List.length_zipWith] at this
    omega
  obtain ⟨y, hy⟩ : ∃ y, (h :: ws)[k]? = some y := ⟨_, List.getElem?_eq_getElem (by omega)⟩
  obtain ⟨x, hx⟩ : ∃ x, (h :: ws)[k + 1]? = some x := ⟨_, List.getElem?_eq_getElem (by omega)⟩
  obtain ⟨p, hp⟩ : ∃ p, ps[k]? = some p := ⟨_, List.getElem?_eq_getElem (by omega)⟩
  obtain ⟨z, hz⟩ : ∃ z, (gAll ps (h :: ws) m c)[k]? = some z := ⟨_, List.getElem?_eq_getElem (by omega)⟩
  have q := stand_get hs hp hy hx
  have hu := gAll_up (c := c) hl hm (k := k + 1) (by omega) (p := p) (by simpa using hp) hx (by simpa using hz)
  rw [farL_get hy hz] at h1
  rw [farL_get hx hu] at h2
  have := drag_less (a := z) (hp0 p (List.mem_of_getElem? hp)) q.1 q.2
  cases h1
  cases h2
  omega
theorem far_down (hs : stand ps h ws) (hp0 : ∀ p ∈ ps, 0 ≤ p) (hm : m ≤ ps.length) {k : Nat} (hk : k < m) {f g : Int} (h1 : (farL (h :: ws) (gAll ps (h :: ws) m c))[k]? = some f) (h2 : (farL (h :: ws) (gAll ps (h :: ws) m c))[k + 1]? = some g) : f ≤ g := by
  have hl : (h :: ws).length = ps.length + 1 := by simp [hs.1]
  have hgl := gAll_len (c := c) hl hm
  obtain ⟨y, hy⟩ : ∃ y, (h :: ws)[k]? = some y := ⟨_, List.getElem?_eq_getElem (by omega)⟩
  obtain ⟨x, hx⟩ : ∃ x, (h :: ws)[k + 1]? = some x := ⟨_, List.getElem?_eq_getElem (by omega)⟩
  obtain ⟨p, hp⟩ : ∃ p, ps[k]? = some p := ⟨_, List.getElem?_eq_getElem (by omega)⟩
  obtain ⟨z, hz⟩ : ∃ z, (gAll ps (h :: ws) m c)[k + 1]? = some z := ⟨_, List.getElem?_eq_getElem (by omega)⟩
  have q := stand_get hs hp hy hx
  have hd := gAll_down (c := c) hl hm hk hp hy hz
  rw [farL_get hy hd] at h1
  rw [farL_get hx hz] at h2
  have := drag_less (a := z) (x := y) (y := x) (hp0 p (List.mem_of_getElem? hp)) q.2 q.1
  cases h1
  cases h2
  omega
end
/-- falling, step by step -/
theorem falls : ∀ {xs : List Int}, (∀ (k : Nat) f g, xs[k]? = some f → xs[k + 1]? = some g → g ≤ f) → xs.Pairwise (· ≥ ·)
  | [], _ => .nil
  | [x], _ => List.pairwise_singleton _ _
  | x :: y :: xs, h => by
    have ih := falls (xs := y :: xs) fun k f g h1 h2 => h (k + 1) f g (by simpa using h1) (by simpa using h2)
    have h0 := h 0 x y rfl rfl
    rw [List.pairwise_cons]
    refine ⟨fun z hz => ?_, ih⟩
    rcases List.mem_cons.mp hz with e | e
    · subst e; exact h0
    · have := (List.pairwise_cons.mp ih).1 z e
      omega
theorem falls_eq : ∀ {xs ys : List Int}, xs.Perm ys → xs.Pairwise (· ≥ ·) → ys.Pairwise (· ≥ ·) → xs = ys
  | [], ys, h, _, _ => by simpa using h.length_eq.symm
  | x :: xs, [], h, _, _ => by simp at h
  | x :: xs, y :: ys, h, h1, h2 => by
    obtain ⟨a1, a2⟩ := List.pairwise_cons.mp h1
    obtain ⟨b1, b2⟩ := List.pairwise_cons.mp h2
    have e : x = y := by
      have m1 : x ∈ y :: ys := h.mem_iff.mp List.mem_cons_self
      have m2 : y ∈ x :: xs := h.mem_iff.mpr List.mem_cons_self
      rcases List.mem_cons.mp m1 with z | z
      · exact z
      · rcases List.mem_cons.mp m2 with w | w
        · exact w.symm
        · have := a1 y w
          have := b1 x z
          omega
    subst e
    rw [falls_eq ((List.perm_cons x).mp h) a2 b2]
end M

set_option Elab.async false
set_option linter.all false
set_option maxRecDepth 100000
namespace L2
open PySem PySem.Spec PyProof.Rows
/-! ### sorted(xs, reverse=True) -/
def rSortedR (K : PySem.W.Frag) : List V → Hp → VK → Prop := fun vs H Q => ∃ p ns, vs = [.ref p] ∧ SqL K H p (iL ns) ∧ ns.length < 64 ∧ ∀ l ms, H l = none → ms.Perm ns → ms.Pairwise (· ≥ ·) → Q (.ref l) (upd H l (.lst (iL ms)))
section
variable {X : Cx} {K : PySem.W.Frag} {a : Expr} {t : TA} {p kp vp pos : Pos} {k : Nat}
theorem pe_sortedRev (hK : X.K = K) (hg : Gl X "sorted") (hm : X.mg "sorted" = none) (ha : PA X [a] t)
    (he : starEach [a] X.env = [(false, eval a X.env)] := by rfl) : PE X (.Call (.Name "sorted" p) [a] [⟨some "reverse", .Constant (.bool true) k vp, kp⟩] pos) (tCB (rSortedR K) t) := by
  subst hK
  intro pins s σ H Q I h
  refine wpAny_Call_Name_kw (ld_blt I hg hm bt_sorted ?_)
  refine callWith_kw (thn (ha pos pins s σ H _ I h) fun us s1 ⟨vs, H1, I1, r1, p1, ns, e1, hq, h64, q⟩ => ?_) (by rw [he]; rfl) (by rw [he]; rfl)
  subst e1
  obtain ⟨u, rfl, ru⟩ := vals1 r1
  cases ru
  refine kws_cons (Constant_bool (kws_nil ?_))
  show wpAny _ _ (call (.builtin "sorted") [.ref p1] [(Str.ofString "reverse", .bool true)]) _ _ _
  obtain ⟨its, rv, pl, hz⟩ := I1.list hq
  have hl : its.length < 64 := by rw [← rv.length]; simpa [iL] using h64
  refine sorted_ints_rev pl.isList (intsAre_of rv) hl fun out ns' a1 a2 a3 => ?_
  obtain ⟨e, he⟩ := sortedAll_at s1.heap its out
  have hn : H1 (s1.heap.objs.size + 1) = none := I1.hok.fresh (Nat.le_succ _)
  have I2 := I1.kept (t' := s1.toks) (h' := sortedAll s1.heap its out) (fun _ _ => sortedAll_old)
  have a := I1.aside (Nat.le_succ s1.heap.objs.size) hn
  have v : Vals (iL ns') out.toList := vals_ints a1
  have lz : (iL ns').length ≤ sizeLine := by
    have e1 := a2.length_eq
    have : (iL ns').length = ns'.length := by simp [iL]
    rw [this, e1]
    exact szl (by omega)
  refine ⟨.ref (s1.heap.objs.size + 1), upd H1 (s1.heap.objs.size + 1) (.lst (iL ns')), I2.track hn a.ne a.ab a.cl a.pn ⟨lz, out.toList, e, v, ?_⟩, rfl, q _ ns' hn a2 (by simpa [Ordered] using a3)⟩
  simpa [seqObj] using he
end
end L2

set_option Elab.async false
set_option linter.all false
set_option maxRecDepth 100000
namespace L2
open PySem PySem.Spec PyProof.Rows
/-! ### list(zip(xs, ys)) -/
abbrev IsZipK (h : Heap) (z TI TO T : Addr) (b : Bool) : Prop :=
  h.get? z = some { cls := .type "zip", dict := none, data := .fields #[rawInt T, .bool b, .bool false, .ref TI, .ref TO], slots := #[] }
section
variable {prog : Program} {w : World} {A : Around} {E : Value → Shared → Prop} {s : Shared}
theorem wpAny_loadIfAlive {M : Model} {a : Addr} {Q : Option Obj → Shared → Prop} (h : Q (s.heap.get? a) s) : wpAny M A (loadIfAlive a) Q E s := fun Γ p hΓ => by
  unfold loadIfAlive
  rw [Sem.wp_loadIfAlive]
  exact wpAny_pure (M := M) (A := A) (E := E) h Γ p hΓ
theorem owned_kept {z TI TO T : Addr} {b : Bool} {oT : Obj} {Q : Bool → Shared → Prop} (hz : IsZipK s.heap z TI TO T b) (hT : s.heap.get? T = some oT)
    (hQ : ∀ h', IsZipK h' z TI TO T true → Heap.SameBut z s.heap h' → Q false { s with heap := h' }) : wpAny (model prog w) A (Builtin.SmallTypes.ownedTupleIsFree (.ref z)) Q E s := by
  unfold Builtin.SmallTypes.ownedTupleIsFree
  refine wpAny_bind (wpAny_field hz rfl (x := rawInt T) rfl ?_)
  show wpAny _ _ (loadIfAlive ((T : Int).toNat) >>= _) _ _ _
  rw [Int.toNat_natCast]
  refine wpAny_bind (wpAny_loadIfAlive ?_)
  rw [hT]
  simp only [Option.isNone_some, Bool.false_eq_true, if_false]
  refine wpAny_bind (wpAny_field hz rfl (x := .bool b) rfl ?_)
  cases b with
  | true =>
    simp only [bne_self_eq_false, Bool.false_eq_true, if_false]
    exact wpAny_pure (hQ _ hz (Heap.SameBut.refl ..))
  | false =>
    have : (Value.bool false != Value.bool true) = true := by decide
    simp only [this, if_true]
    refine wpAny_bind (wpAny_setField_rec hz (by simp) fun h' hz' hs' => ?_)
    exact wpAny_pure (hQ h' hz' hs')
theorem zip_next_kept {z TI TO i1 i2 l1 l2 T : Addr} {b : Bool} {oT : Obj} {k1 k2 : Nat} {xs ys : Array Value} {x y : Value} {Q : Value → Shared → Prop} (D : ZipApart z TI TO i1 i2 l1 l2)
    (hz : IsZipK s.heap z TI TO T b) (hT : s.heap.get? T = some oT) (hTI : IsPair s.heap TI (.ref i1) (.ref i2))
    (h1 : s.heap.IsListIter i1 l1 k1) (h2 : s.heap.IsListIter i2 l2 k2) (hl1 : s.heap.IsList l1 xs) (hl2 : s.heap.IsList l2 ys) (hx : xs[k1]? = some x) (hy : ys[k2]? = some y)
    (hQ : ∀ h', IsZipK h' z TI TO T true → h'.IsListIter i1 l1 (k1 + 1) → h'.IsListIter i2 l2 (k2 + 1) → IsPair h' s.heap.objs.size x y → h'.objs.size = s.heap.objs.size + 1 →
      (∀ c o, c ≠ z → c ≠ i1 → c ≠ i2 → s.heap.get? c = some o → h'.get? c = some o) → Q (.ref s.heap.objs.size) { s with heap := h' }) :
    wpAny (model prog w) A (Builtin.«zip.__next__» ⟨[.ref z], []⟩) (fun fin s' => ∃ v, fin = .done (.ret v) ∧ Q v s') E s := by
  show wpAny _ _ (field (.ref z) 2 >>= _) _ _ _
  refine wpAny_bind (wpAny_field hz rfl (x := .bool false) rfl ?_)
  show wpAny _ _ (field (.ref z) 3 >>= _) _ _ _
  refine wpAny_bind (wpAny_field hz rfl (x := .ref TI) rfl ?_)
  refine wpAny_bind (wpAny_seqItems hTI rfl ?_)
  show wpAny _ _ (Builtin.SmallTypes.ownedTupleIsFree (.ref z) >>= _) _ _ _
  refine wpAny_bind (owned_kept hz hT fun h₁ hz₁ hs₁ => ?_)
  simp only [Bool.false_eq_true, if_false]
  rw [← Array.forIn_toList]
  simp only [List.forIn_cons, List.forIn_nil]
  refine wpAny_bind (wpAny_bind (wpAny_bind (wpAny_holding ?_)))
  show wpAny _ _ (Builtin.SmallTypes.nextOf (.ref i1) >>= _) _ _ _
  refine wpAny_bind (wpAny_nextOf_list_item (h1.extBut hs₁.extBut D.i1z) (hl1.extBut hs₁.extBut D.l1z) hx fun h₂ h1₂ hs₂ => wpAny_pure ?_)
  refine wpAny_pure ?_
  refine wpAny_bind (wpAny_bind (wpAny_holding ?_))
  show wpAny _ _ (Builtin.SmallTypes.nextOf (.ref i2) >>= _) _ _ _
  refine wpAny_bind (wpAny_nextOf_list_item ((h2.extBut hs₁.extBut D.i2z).extBut hs₂.extBut D.i12.symm) ((hl2.extBut hs₁.extBut D.l2z).extBut hs₂.extBut D.l2i1) hy fun h₃ h2₃ hs₃ => wpAny_pure ?_)
  refine wpAny_pure (wpAny_pure ?_)
  refine wpAny_bind (wpAny_newTuple ?_ (by show 2 ≤ sizeLine; exact szl (by decide)))
  have hsz : h₃.objs.size = s.heap.objs.size := by rw [hs₃.1, hs₂.1, hs₁.1]
  have hz₃ : IsZipK h₃ z TI TO T true := hs₃.extBut _ _ D.i2z.symm (hs₂.extBut _ _ D.i1z.symm hz₁)
  have hk₃ : ∀ c o, c ≠ z → c ≠ i1 → c ≠ i2 → s.heap.get? c = some o → h₃.get? c = some o := fun c o c1 c3 c4 e => hs₃.extBut _ _ c4 (hs₂.extBut _ _ c3 (hs₁.extBut _ _ c1 e))
  have h1₃ : h₃.IsListIter i1 l1 (k1 + 1) := h1₂.extBut hs₃.extBut D.i12
  refine wpAny_pure ⟨_, rfl, ?_⟩
  show Q (.ref h₃.objs.size) _
  rw [hsz]
  refine hQ _ (Heap.get?_push_of_some _ hz₃) ?_ ?_ ?_ ?_ fun c o c1 c2 c3 e => Heap.get?_push_of_some _ (hk₃ c o c1 c2 c3 e)
  · obtain ⟨o, e, r⟩ := h1₃; exact ⟨o, Heap.get?_push_of_some _ e, r⟩
  · obtain ⟨o, e, r⟩ := h2₃; exact ⟨o, Heap.get?_push_of_some _ e, r⟩
  · rw [← hsz]; exact Heap.get?_push_size _ rfl
  · rw [Heap.size_push, hsz]
theorem zip_next_kend {z TI TO i1 i2 l1 l2 T : Addr} {b : Bool} {oT : Obj} {k1 k2 : Nat} {xs ys : Array Value} {Q : Fin → Shared → Prop} (hh : A.handled = none) (D : ZipApart z TI TO i1 i2 l1 l2)
    (hz : IsZipK s.heap z TI TO T b) (hT : s.heap.get? T = some oT) (hTI : IsPair s.heap TI (.ref i1) (.ref i2))
    (h1 : s.heap.IsListIter i1 l1 k1) (h2 : s.heap.IsListIter i2 l2 k2) (hl1 : s.heap.IsList l1 xs) (hl2 : s.heap.IsList l2 ys) (hend : xs[k1]? = none ∨ ys[k2]? = none)
    (hE : ∀ h' e, (∀ c o, c ≠ z → c ≠ i1 → c ≠ i2 → s.heap.get? c = some o → h'.get? c = some o) → (∃ o, h'.get? e = some o ∧ o.cls = .type "StopIteration") → E (.ref e) { s with heap := h' }) :
    wpAny (model prog w) A (Builtin.«zip.__next__» ⟨[.ref z], []⟩) Q E s := by
  show wpAny _ _ (field (.ref z) 2 >>= _) _ _ _
  refine wpAny_bind (wpAny_field hz rfl (x := .bool false) rfl ?_)
  show wpAny _ _ (field (.ref z) 3 >>= _) _ _ _
  refine wpAny_bind (wpAny_field hz rfl (x := .ref TI) rfl ?_)
  refine wpAny_bind (wpAny_seqItems hTI rfl ?_)
  show wpAny _ _ (Builtin.SmallTypes.ownedTupleIsFree (.ref z) >>= _) _ _ _
  refine wpAny_bind (owned_kept hz hT fun h₁ hz₁ hs₁ => ?_)
  simp only [Bool.false_eq_true, if_false]
  rw [← Array.forIn_toList]
  simp only [List.forIn_cons, List.forIn_nil]
  refine wpAny_bind (wpAny_bind (wpAny_bind (wpAny_holding ?_)))
  show wpAny _ _ (Builtin.SmallTypes.nextOf (.ref i1) >>= _) _ _ _
  cases hx : xs[k1]? with
  | none =>
    refine wpAny_bind (wpAny_nextOf_list_end hh (h1.extBut hs₁.extBut D.i1z) (hl1.extBut hs₁.extBut D.l1z) hx fun h₂ e hs₂ he => ?_)
    exact hE h₂ e (fun c o c1 c3 _ x => hs₂ _ _ c3 (hs₁.extBut _ _ c1 x)) he
  | some x =>
    have hy : ys[k2]? = none := by rcases hend with h | h; rw [hx] at h; cases h; exact h
    refine wpAny_bind (wpAny_nextOf_list_item (h1.extBut hs₁.extBut D.i1z) (hl1.extBut hs₁.extBut D.l1z) hx fun h₂ h1₂ hs₂ => wpAny_pure ?_)
    refine wpAny_pure ?_
    refine wpAny_bind (wpAny_bind (wpAny_holding ?_))
    show wpAny _ _ (Builtin.SmallTypes.nextOf (.ref i2) >>= _) _ _ _
    refine wpAny_bind (wpAny_nextOf_list_end hh ((h2.extBut hs₁.extBut D.i2z).extBut hs₂.extBut D.i12.symm) ((hl2.extBut hs₁.extBut D.l2z).extBut hs₂.extBut D.l2i1) hy fun h₃ e hs₃ he => ?_)
    exact hE h₃ e (fun c o c1 c3 c4 x => hs₃ _ _ c4 (hs₂.extBut _ _ c3 (hs₁.extBut _ _ c1 x))) he
/-- a zip between two steps: nothing handed out yet, or something that is kept -/
def ZipL (z TI TO i1 i2 a b : Addr) (i : Nat) (h : Heap) : Prop := ((IsZip h z TI TO .none ∧ ∃ u v, IsPair h TO u v) ∨ (∃ T bb oT, IsZipK h z TI TO T bb ∧ h.get? T = some oT ∧ T ≠ z ∧ T ≠ TO ∧ T ≠ i1 ∧ T ≠ i2)) ∧ IsPair h TI (.ref i1) (.ref i2) ∧ h.IsListIter i1 a i ∧ h.IsListIter i2 b i
theorem next_zipL {z TI TO i1 i2 l1 l2 : Addr} {k : Nat} {xs ys : Array Value} {x y : Value} {Q : Option Value → Shared → Prop} (D : ZipApart z TI TO i1 i2 l1 l2) (hz : ZipL z TI TO i1 i2 l1 l2 k s.heap)
    (hl1 : s.heap.IsList l1 xs) (hl2 : s.heap.IsList l2 ys) (hx : xs[k]? = some x) (hy : ys[k]? = some y)
    (hQ : ∀ h', ZipL z TI TO i1 i2 l1 l2 (k + 1) h' → IsPair h' s.heap.objs.size x y → (∀ c o, c ≠ z → c ≠ TO → c ≠ i1 → c ≠ i2 → s.heap.get? c = some o → h'.get? c = some o) → Q (some (.ref s.heap.objs.size)) { s with heap := h' }) :
    wpAny (model prog w) A (pyNext (.ref z)) Q E s := by
  obtain ⟨hz, hTI, h1, h2⟩ := hz
  have lti1 : i1 < s.heap.objs.size := by obtain ⟨_, e, _⟩ := h1; exact Heap.lt_size e
  have lti2 : i2 < s.heap.objs.size := by obtain ⟨_, e, _⟩ := h2; exact Heap.lt_size e
  rcases hz with ⟨hz, u, v, hTO⟩ | ⟨T, bb, oT, hz, hT, n1, n2, n3, n4⟩
  · refine wpAny_pyNext_zip_item D hz hTI hTO h1 h2 hl1 hl2 hx hy fun h' a1 a2 a3 a4 a5 a6 a7 => hQ h' ⟨.inr ⟨_, false, _, a1, a5, Nat.ne_of_gt (Heap.lt_size hz), Nat.ne_of_gt (Heap.lt_size hTO), Nat.ne_of_gt lti1, Nat.ne_of_gt lti2⟩, a7 _ _ D.TIz D.TITO D.TIi1 D.TIi2 hTI, a3, a4⟩ a5 a7
  · have hTy : s.TypeIs (.ref z) "zip" := ⟨_, hz, rfl⟩
    unfold pyNext
    refine wpAny_bind (wpAny_attempt (wpAny_callSpecial?_slot (name := Str.ofString "__next__") hTy F.slot_zip_next
      (wpAny_call_entry F.slot_zip_next hTy F.entry_zip_next
        (zip_next_kept D hz hT hTI h1 h2 hl1 hl2 hx hy fun h' a1 a3 a4 a5 a6 a7 => wpAny_pure (hQ h' ⟨.inr ⟨T, true, oT, a1, a7 _ _ n1 n3 n4 hT, n1, n2, n3, n4⟩, a7 _ _ D.TIz D.TIi1 D.TIi2 hTI, a3, a4⟩ a5 fun c o c1 _ c3 c4 e => a7 c o c1 c3 c4 e)) (F.args_zip_next_1 _))))
theorem end_zipL {z TI TO i1 i2 l1 l2 : Addr} {k : Nat} {xs ys : Array Value} {Q : Option Value → Shared → Prop} (hh : A.handled = none) (D : ZipApart z TI TO i1 i2 l1 l2) (hz : ZipL z TI TO i1 i2 l1 l2 k s.heap)
    (hl1 : s.heap.IsList l1 xs) (hl2 : s.heap.IsList l2 ys) (hend : xs[k]? = none ∨ ys[k]? = none)
    (hQ : ∀ h', (∀ c o, c ≠ z → c ≠ TO → c ≠ i1 → c ≠ i2 → s.heap.get? c = some o → h'.get? c = some o) → Q none { s with heap := h' }) :
    wpAny (model prog w) A (pyNext (.ref z)) Q E s := by
  obtain ⟨hz, hTI, h1, h2⟩ := hz
  rcases hz with ⟨hz, u, v, hTO⟩ | ⟨T, bb, oT, hz, hT, n1, n2, n3, n4⟩
  · exact wpAny_pyNext_zip_end hh D hz hTI hTO h1 h2 hl1 hl2 hend hQ
  · have hTy : s.TypeIs (.ref z) "zip" := ⟨_, hz, rfl⟩
    unfold pyNext
    refine wpAny_bind (wpAny_attempt (wpAny_callSpecial?_slot (name := Str.ofString "__next__") hTy F.slot_zip_next
      (wpAny_call_entry F.slot_zip_next hTy F.entry_zip_next (zip_next_kend hh D hz hT hTI h1 h2 hl1 hl2 hend fun h' e hk he => ?_) (F.args_zip_next_1 _))))
    obtain ⟨o, ho, hc⟩ := he
    refine wpAny_bind (wpAny_isInstance (T := "StopIteration") (b := true) ⟨o, ho, hc⟩ isSubtype_stop ?_)
    exact wpAny_pure (hQ _ fun c o c1 _ c3 c4 e => hk c o c1 c3 c4 e)
end
section
variable {prog : Program} {w : World} {A : Around} {R : Result → Shared → Prop}
/-- what has been collected: new pairs -/
def Got (n0 : Nat) (xs ys : Array Value) (h : Heap) (Ts : List Addr) : Prop := ∀ (k : Nat) (T : Addr), Ts[k]? = some T → n0 ≤ T ∧ ∃ x y, xs[k]? = some x ∧ ys[k]? = some y ∧ IsPair h T x y
theorem loop_zipL {z TI TO i1 i2 l1 l2 S : Addr} {xs ys : Array Value} {n0 : Nat} {res : Value} (hh : A.in1.handled = none) (D : ZipApart z TI TO i1 i2 l1 l2) (hS4 : S ≠ z ∧ S ≠ TO ∧ S ≠ i1 ∧ S ≠ i2) (hSl : S ≠ l1 ∧ S ≠ l2 ∧ S ≠ TI) (h4 : n0 ≤ S)
    (hn : min xs.size ys.size ≤ sizeLine) :
    ∀ (m k : Nat) (s : Shared) (Ts : List Addr) (c : Nat), min xs.size ys.size - k = m → k ≤ min xs.size ys.size → n0 ≤ s.heap.objs.size → (∀ q ∈ [z, TO, i1, i2, S], q < s.heap.objs.size) → ZipL z TI TO i1 i2 l1 l2 k s.heap → s.heap.IsList l1 xs → s.heap.IsList l2 ys → Ts.length = k → Got n0 xs ys s.heap Ts →
      (∀ T ∈ Ts, T ≠ z ∧ T ≠ TO ∧ T ≠ i1 ∧ T ≠ i2 ∧ T ≠ S) → Ts.Nodup →
      s.heap.get? S = some { cls := .type "list", dict := none, data := .seq (Ts.map Value.ref).toArray c, slots := #[] } →
      (∀ h' Ts' c', (∀ b o, b ≠ z → b ≠ TO → b ≠ i1 → b ≠ i2 → b ≠ S → s.heap.get? b = some o → h'.get? b = some o) → h'.get? S = some { cls := .type "list", dict := none, data := .seq (Ts'.map Value.ref).toArray c', slots := #[] } → Ts'.length = min xs.size ys.size → Got n0 xs ys h' Ts' → (∀ T ∈ Ts', T ≠ S) → Ts'.Nodup → R (.ok (.ret res)) { s with heap := h' }) →
      codeAny (model prog w) A (.builtin "list.extend.loop" ⟨[.ref S, .ref z, res], []⟩) R s
  | 0, k, s, Ts, c, hm, hk, hsz, hlt, hz, hl1, hl2, hTl, hG, hTs, hnd, hS, hR => by
    refine codeAny_builtin F.entry_extend_loop ?_
    rw [Around.under_plainId F.plain_extend_loop _]
    show wpAny _ A.in1 (pyNext (.ref z) >>= _) _ _ s
    refine wpAny_bind (end_zipL hh D hz hl1 hl2 ?_ fun h' kp => ?_)
    · by_cases e : k < xs.size
      · right; exact Array.getElem?_eq_none (by omega)
      · left; exact Array.getElem?_eq_none (by omega)
    · refine wpAny_pure (hR h' Ts c (fun b o b1 b2 b3 b4 _ e => kp b o b1 b2 b3 b4 e) (kp _ _ hS4.1 hS4.2.1 hS4.2.2.1 hS4.2.2.2 hS) (by omega) ?_ (fun T hT => (hTs T hT).2.2.2.2) hnd)
      intro j T hT
      obtain ⟨a, x, y, e1, e2, e3⟩ := hG j T hT
      obtain ⟨q1, q2, q3, q4, _⟩ := hTs T (List.mem_of_getElem? hT)
      exact ⟨a, x, y, e1, e2, kp _ _ q1 q2 q3 q4 e3⟩
  | m + 1, k, s, Ts, c, hm, hk, hsz, hlt, hz, hl1, hl2, hTl, hG, hTs, hnd, hS, hR => by
    refine codeAny_builtin F.entry_extend_loop ?_
    rw [Around.under_plainId F.plain_extend_loop _]
    show wpAny _ A.in1 (pyNext (.ref z) >>= _) _ _ s
    have hkx : k < xs.size := by omega
    have hky : k < ys.size := by omega
    refine wpAny_bind (next_zipL (x := xs[k]) (y := ys[k]) D hz hl1 hl2 (by simp [hkx]) (by simp [hky]) fun h' hz' hp' kp => ?_)
    have nT : ∀ q ∈ [z, TO, i1, i2, S], s.heap.objs.size ≠ q := fun q hq => Nat.ne_of_gt (hlt q hq)
    have hS' := kp _ _ hS4.1 hS4.2.1 hS4.2.2.1 hS4.2.2.2 hS
    have hl1' : h'.IsList l1 xs := by obtain ⟨o, e, r⟩ := hl1; exact ⟨o, kp _ _ D.l1z D.l1TO D.l1i1 D.l1i2 e, r⟩
    have hl2' : h'.IsList l2 ys := by obtain ⟨o, e, r⟩ := hl2; exact ⟨o, kp _ _ D.l2z D.l2TO D.l2i1 D.l2i2 e, r⟩
    have hsz' : s.heap.objs.size < h'.objs.size := Heap.lt_size hp'
    show wpAny _ A.in1 (updateSeq S (·.push (.ref s.heap.objs.size)) >>= _) _ _ _
    refine wpAny_bind ?_
    refine wpAny_updateSeq hS' rfl ?_ (by simp; omega) (by show ((Ts.map Value.ref).toArray.push _).size ≤ sizeLine + 1; simp; omega)
    have up : ∀ b o, b ≠ S → h'.get? b = some o → (h'.update S (Obj.mapSeq (·.push (Value.ref s.heap.objs.size)))).get? b = some o := fun b o hb e => (Heap.get?_update_other _ _ (Ne.symm hb)).trans e
    have hSS := Heap.get?_update_self (Obj.mapSeq (·.push (Value.ref s.heap.objs.size))) hS' rfl
    refine wpAny_pure ⟨plainId_quiet F.plain_extend_loop _, loop_zipL hh D hS4 hSl h4 hn m (k + 1) _ (Ts ++ [s.heap.objs.size]) (c + 1) (by omega) (by omega) ?_ ?_ ?_ ?_ ?_ (by simp; omega) ?_ ?_ ?_ ?_ ?_⟩
    · show n0 ≤ (h'.update S _).objs.size
      rw [Heap.size_update]; omega
    · intro q hq
      show q < (h'.update S _).objs.size
      rw [Heap.size_update]
      exact Nat.lt_trans (hlt q hq) hsz'
    · obtain ⟨a1, a2, a3, a4⟩ := hz'
      refine ⟨?_, up _ _ (Ne.symm hSl.2.2) a2, a3.at fun o e => up _ _ (Ne.symm hS4.2.2.1) e, a4.at fun o e => up _ _ (Ne.symm hS4.2.2.2) e⟩
      rcases a1 with ⟨e, u, v, e2⟩ | ⟨T, bb, oT, e, e2, r⟩
      · exact .inl ⟨up _ _ (Ne.symm hS4.1) e, u, v, up _ _ (Ne.symm hS4.2.1) e2⟩
      · by_cases q : T = S
        · subst q
          exact .inr ⟨T, bb, _, up _ _ (Ne.symm hS4.1) e, hSS, r⟩
        · exact .inr ⟨T, bb, oT, up _ _ (Ne.symm hS4.1) e, up _ _ q e2, r⟩
    · obtain ⟨o, e, r⟩ := hl1'; exact ⟨o, up _ _ (Ne.symm hSl.1) e, r⟩
    · obtain ⟨o, e, r⟩ := hl2'; exact ⟨o, up _ _ (Ne.symm hSl.2.1) e, r⟩
    · intro j T hT
      by_cases hj : j < Ts.length
      · rw [List.getElem?_append_left hj] at hT
        obtain ⟨a, x, y, e1, e2, e3⟩ := hG j T hT
        obtain ⟨q1, q2, q3, q4, q5⟩ := hTs T (List.mem_of_getElem? hT)
        exact ⟨a, x, y, e1, e2, up _ _ q5 (kp _ _ q1 q2 q3 q4 e3)⟩
      · rw [List.getElem?_append_right (by omega)] at hT
        have hj2 : j = k := by
          have := (List.getElem?_eq_some_iff.mp hT).1
          simp at this
          omega
        subst hj2
        rw [hTl, Nat.sub_self] at hT
        simp at hT
        subst hT
        exact ⟨hsz, xs[j], ys[j], by simp [hkx], by simp [hky], up _ _ (nT S (by simp)) hp'⟩
    · intro T hT
      rcases List.mem_append.mp hT with q | q
      · exact hTs T q
      · simp at q
        subst q
        exact ⟨nT _ (by simp), nT _ (by simp), nT _ (by simp), nT _ (by simp), nT _ (by simp)⟩
    · rw [List.nodup_append]
      refine ⟨hnd, by simp, fun a ha b hb => ?_⟩
      simp at hb
      subst hb
      intro e
      subst e
      obtain ⟨j, hj⟩ := List.mem_iff_getElem?.mp ha
      obtain ⟨_, x, y, _, _, e3⟩ := hG j _ hj
      exact Nat.lt_irrefl _ (Heap.lt_size e3)
    · refine hSS.trans ?_
      simp [Obj.mapSeq]
    · intro h2 Ts' c' kp2 hS2 hl hG2 hT2 hn2
      exact hR h2 Ts' c' (fun b o b1 b2 b3 b4 b5 e => kp2 b o b1 b2 b3 b4 b5 (up b o b5 (kp b o b1 b2 b3 b4 e))) hS2 hl hG2 hT2 hn2
end

theorem zip_no_len : typeLookup (.type "zip") "__len__" = pure none := by rw [typeLookup_type, builtinLookup_eq_fast]; kernel_rfl
theorem zip_no_hint : typeLookup (.type "zip") "__length_hint__" = pure none := by rw [typeLookup_type, builtinLookup_eq_fast]; kernel_rfl
section
variable {prog : Program} {w : World} {A : Around} {R : Result → Shared → Prop} {s : Shared}
theorem ZipL.ty {z TI TO i1 i2 l1 l2 : Addr} {k : Nat} (h : ZipL z TI TO i1 i2 l1 l2 k s.heap) : s.TypeIs (.ref z) "zip" := by
  rcases h.1 with ⟨e, _⟩ | ⟨_, _, _, e, _⟩
  · exact ⟨_, e, rfl⟩
  · exact ⟨_, e, rfl⟩
theorem ZipL.kept {z TI TO i1 i2 l1 l2 : Addr} {k : Nat} {h h' : Heap} (x : ZipL z TI TO i1 i2 l1 l2 k h) (up : ∀ b o, h.get? b = some o → (b = z ∨ b = TI ∨ b = TO ∨ b = i1 ∨ b = i2) → h'.get? b = some o) (upT : ∀ T bb, IsZipK h z TI TO T bb → ∀ o, h.get? T = some o → ∃ o', h'.get? T = some o') : ZipL z TI TO i1 i2 l1 l2 k h' := by
  obtain ⟨a1, a2, a3, a4⟩ := x
  refine ⟨?_, up _ _ a2 (by simp), a3.at fun o e => up _ _ e (by simp), a4.at fun o e => up _ _ e (by simp)⟩
  rcases a1 with ⟨e, u, v, e2⟩ | ⟨T, bb, oT, e, e2, r⟩
  · exact .inl ⟨up _ _ e (by simp), u, v, up _ _ e2 (by simp)⟩
  · obtain ⟨o', e3⟩ := upT T bb e oT e2
    exact .inr ⟨T, bb, o', up _ _ e (by simp), e3, r⟩
theorem extend_zipL {z TI TO i1 i2 l1 l2 S : Addr} {xs ys : Array Value} {n0 c₀ : Nat} {res : Value} (hh : A.in1.handled = none) (D : ZipApart z TI TO i1 i2 l1 l2) (hS4 : S ≠ z ∧ S ≠ TO ∧ S ≠ i1 ∧ S ≠ i2) (hSl : S ≠ l1 ∧ S ≠ l2 ∧ S ≠ TI) (h4 : n0 ≤ S)
    (hn : min xs.size ys.size ≤ sizeLine) (hsz : n0 ≤ s.heap.objs.size) (hlt : ∀ q ∈ [z, TO, i1, i2, S], q < s.heap.objs.size) (hz0 : IsZip s.heap z TI TO .none) (hz : ZipL z TI TO i1 i2 l1 l2 0 s.heap) (hl1 : s.heap.IsList l1 xs) (hl2 : s.heap.IsList l2 ys)
    (hS : s.heap.get? S = some { cls := .type "list", data := .seq #[] c₀ })
    (hR : ∀ h' Ts' c', (∀ b o, b ≠ z → b ≠ TO → b ≠ i1 → b ≠ i2 → b ≠ S → s.heap.get? b = some o → h'.get? b = some o) → h'.get? S = some { cls := .type "list", dict := none, data := .seq (Ts'.map Value.ref).toArray c', slots := #[] } → Ts'.length = min xs.size ys.size → Got n0 xs ys h' Ts' → (∀ T ∈ Ts', T ≠ S) → Ts'.Nodup → R (.ok (.ret res)) { s with heap := h' }) :
    wpAny (model prog w) A.in1 (Builtin.List.listExtendWith (.ref S) (.ref z) res)
      (fun fin s' => match fin with | .done f => R (.ok f) s' | .again c' => c'.quiet = true ∧ codeAny (model prog w) A c' R s') (fun e s' => R (.error e) s') s := by
  unfold Builtin.List.listExtendWith
  refine wpAny_bind (wpAny_typeOf hz.ty ?_)
  have h1 : Builtin.List.listSameRef (.ref S) (.ref z) = false := by simp [Builtin.List.listSameRef, hS4.1]
  have h2 : (Value.type "zip" == Value.type "list") = false := by decide
  have h3 : (Value.type "zip" == Value.type "tuple") = false := by decide
  simp only [h1, h2, h3, Bool.or_false, Bool.false_eq_true, if_false]
  refine wpAny_bind (wpAny_pyIter_zip hz0 ?_)
  refine wpAny_bind (wpAny_holding ?_)
  unfold Builtin.List.listLengthHint
  refine wpAny_bind (wpAny_specialOf hz.ty zip_no_len ?_)
  show wpAny _ A.in1 (specialOf (Value.ref z) (Str.ofString "__length_hint__") >>= _) _ _ _
  refine wpAny_bind (wpAny_specialOf hz.ty zip_no_hint ?_)
  refine wpAny_pure ?_
  show wpAny _ A.in1 (rule "list.extend.makes-room" >>= fun _ => Builtin.List.listTouch (.ref S) >>= fun _ =>
    again (.builtin "list.extend.loop" ⟨[.ref S, .ref z, res], []⟩)) _ _ _
  refine wpAny_bind (wpAny_rule ?_)
  refine wpAny_bind ?_
  show wpAny _ A.in1 (updateSeq S (·.push .none) >>= fun _ => updateSeq S (·.pop)) _ _ _
  refine wpAny_bind (wpAny_updateSeq hS rfl ?_)
  have hS₂ := Heap.get?_update_self (Obj.mapSeq (·.push Value.none)) hS rfl
  refine wpAny_updateSeq (hz := by seq_fits) hS₂ rfl ?_
  have hS₃ := Heap.get?_update_self (Obj.mapSeq (·.pop)) hS₂ rfl
  have oth : ∀ b o, b ≠ S → s.heap.get? b = some o → ((s.heap.update S (Obj.mapSeq (·.push Value.none))).update S (Obj.mapSeq (·.pop))).get? b = some o :=
    fun b o hb e => (Heap.get?_update_other _ _ (Ne.symm hb)).trans ((Heap.get?_update_other _ _ (Ne.symm hb)).trans e)
  have hsz2 : ((s.heap.update S (Obj.mapSeq (·.push Value.none))).update S (Obj.mapSeq (·.pop))).objs.size = s.heap.objs.size := by rw [Heap.size_update, Heap.size_update]
  refine wpAny_pure ⟨plainId_quiet F.plain_extend_loop _, loop_zipL hh D hS4 hSl h4 hn _ 0 _ [] _ rfl (Nat.zero_le _) (by show n0 ≤ _; rw [hsz2]; exact hsz) (fun q hq => by show q < _; rw [hsz2]; exact hlt q hq) ?_ ?_ ?_ rfl ?_ (fun T hT => absurd hT (by simp)) (by simp) hS₃ fun h' Ts' c' kp a1 a2 a3 a4 a5 => hR h' Ts' c' (fun b o b1 b2 b3 b4 b5 e => kp b o b1 b2 b3 b4 b5 (oth b o b5 e)) a1 a2 a3 a4 a5⟩
  · refine hz.kept (fun b o e q => oth b o ?_ e) fun T bb e => by have e2 := hz0.symm.trans e; simp [rawInt] at e2
    rcases q with rfl | rfl | rfl | rfl | rfl
    · exact hS4.1.symm
    · exact hSl.2.2.symm
    · exact hS4.2.1.symm
    · exact hS4.2.2.1.symm
    · exact hS4.2.2.2.symm
  · obtain ⟨o, e, r⟩ := hl1; exact ⟨o, oth _ _ hSl.1.symm e, r⟩
  · obtain ⟨o, e, r⟩ := hl2; exact ⟨o, oth _ _ hSl.2.1.symm e, r⟩
  · intro j T hT; simp at hT
end
section
variable {prog : Program} {w : World} {A : Around} {E : Value → Shared → Prop} {s : Shared}
theorem call_list_zipL {z TI TO i1 i2 l1 l2 : Addr} {xs ys : Array Value} {n0 : Nat} {Q : Value → Shared → Prop} (hh : A.in1.in1.handled = none) (D : ZipApart z TI TO i1 i2 l1 l2) (hn : min xs.size ys.size ≤ sizeLine) (hsz : n0 ≤ s.heap.objs.size) (hTI : TI < s.heap.objs.size)
    (hlt : ∀ q ∈ [z, TO, i1, i2], q < s.heap.objs.size) (hz0 : IsZip s.heap z TI TO .none) (hz : ZipL z TI TO i1 i2 l1 l2 0 s.heap) (hl1 : s.heap.IsList l1 xs) (hl2 : s.heap.IsList l2 ys)
    (hQ : ∀ h' Ts' c', (∀ b o, b ≠ z → b ≠ TO → b ≠ i1 → b ≠ i2 → s.heap.get? b = some o → h'.get? b = some o) → h'.get? s.heap.objs.size = some { cls := .type "list", dict := none, data := .seq (Ts'.map Value.ref).toArray c', slots := #[] } → Ts'.length = min xs.size ys.size → Got n0 xs ys h' Ts' → (∀ T ∈ Ts', T ≠ s.heap.objs.size) → Ts'.Nodup → Q (.ref s.heap.objs.size) { s with heap := h' }) :
    wpAny (model prog w) A (call (.type "list") [.ref z]) Q E s := by
  refine callType_codes (Q₁ := fun obj s₁ => obj = .ref s.heap.objs.size ∧ s₁ = { s with heap := s.heap.push { cls := .type "list", data := .seq #[] } }) F.called_list (F.typeCall_list_1 _) F.entry_list_init
    (code_list_new _ ⟨rfl, rfl⟩) fun obj s₁ h₁ => ?_
  obtain ⟨rfl, rfl⟩ := h₁
  have hS : (s.heap.push { cls := .type "list", data := .seq #[] }).get? s.heap.objs.size = some { cls := .type "list", data := .seq #[] } := Heap.get?_push_size _ rfl
  refine ⟨⟨_, hS, rfl⟩, F.args_list_init_2 _ _, ?_⟩
  show wpAny _ A.in1.in1 (do let old ← Builtin.List.listItems (.ref s.heap.objs.size); Builtin.List.listUpdate (.ref s.heap.objs.size) (fun _ => #[]); letGo old.toList.reverse; Builtin.List.listExtendWith (.ref s.heap.objs.size) (.ref z) .none) _ _ _
  refine wpAny_bind ?_
  unfold Builtin.List.listItems
  refine wpAny_bind (wpAny_seqItems hS rfl (wpAny_pure ?_))
  show wpAny _ A.in1.in1 (updateSeq s.heap.objs.size (fun _ => #[]) >>= fun _ => letGo (#[] : Array Value).toList.reverse >>= fun _ => Builtin.List.listExtendWith (.ref s.heap.objs.size) (.ref z) .none) _ _ _
  refine wpAny_bind (wpAny_updateSeq hS rfl ?_)
  have hS₂ := Heap.get?_update_self (Obj.mapSeq (fun _ => (#[] : Array Value))) hS rfl
  have oth : ∀ b o, s.heap.get? b = some o → ((s.heap.push { cls := .type "list", data := .seq #[] }).update s.heap.objs.size (Obj.mapSeq (fun _ => (#[] : Array Value)))).get? b = some o :=
    fun b o e => (Heap.get?_update_other _ _ (Nat.ne_of_gt (Heap.lt_size e))).trans (Heap.get?_push_of_some _ e)
  have hsz2 : ((s.heap.push { cls := .type "list", data := .seq #[] }).update s.heap.objs.size (Obj.mapSeq (fun _ => (#[] : Array Value)))).objs.size = s.heap.objs.size + 1 := by rw [Heap.size_update, Heap.size_push]
  refine wpAny_bind (wpAny_letGo ?_)
  have ne : ∀ q ∈ [z, TO, i1, i2], s.heap.objs.size ≠ q := fun q hq => Nat.ne_of_gt (hlt q hq)
  have ltl1 : l1 < s.heap.objs.size := by obtain ⟨_, e, _⟩ := hl1; exact Heap.lt_size e
  have ltl2 : l2 < s.heap.objs.size := by obtain ⟨_, e, _⟩ := hl2; exact Heap.lt_size e
  refine extend_zipL (n0 := n0) (xs := xs) (ys := ys) hh D ⟨ne _ (by simp), ne _ (by simp), ne _ (by simp), ne _ (by simp)⟩ ⟨Nat.ne_of_gt ltl1, Nat.ne_of_gt ltl2, Nat.ne_of_gt hTI⟩ hsz hn (by show n0 ≤ _; rw [hsz2]; omega) (fun q hq => ?_) (oth _ _ hz0) (hz.kept (fun b o e _ => oth b o e) fun T bb e => by have e2 := hz0.symm.trans e; simp [rawInt] at e2) ?_ ?_ hS₂ fun h' Ts' c' kp a1 a2 a3 a4 a5 => ⟨rfl, hQ h' Ts' c' (fun b o b1 b2 b3 b4 e => kp b o b1 b2 b3 b4 (Nat.ne_of_lt (Heap.lt_size e)) (oth b o e)) a1 a2 a3 a4 a5⟩
  · show q < _
    rw [hsz2]
    simp only [List.mem_cons, List.not_mem_nil, or_false] at hq
    rcases hq with rfl | rfl | rfl | rfl | rfl
    · exact Nat.lt_succ_of_lt (hlt _ (by simp))
    · exact Nat.lt_succ_of_lt (hlt _ (by simp))
    · exact Nat.lt_succ_of_lt (hlt _ (by simp))
    · exact Nat.lt_succ_of_lt (hlt _ (by simp))
    · exact Nat.lt_succ_self _
  · obtain ⟨o, e, r⟩ := hl1; exact ⟨o, oth _ _ e, r⟩
  · obtain ⟨o, e, r⟩ := hl2; exact ⟨o, oth _ _ e, r⟩
end

/-! ### over the layer -/
def rListZip (K : PySem.W.Frag) : List V → Hp → VK → Prop := fun vs H Q => ∃ a b xs ys, vs = [.ref a, .ref b] ∧ SqL K H a xs ∧ SqL K H b ys ∧
  ∀ l ts H2, Same H H2 → H l = none → H2 l = some (.lst (ts.map V.ref)) → Paired (fun t (p : V × V) => H t = none ∧ H2 t = some (.tup [p.1, p.2])) ts (xs.zip ys) → ts.Nodup → l ∉ ts → Q (.ref l) H2
section
variable {X : Cx} {K : PySem.W.Frag} {a b : Expr} {t : TA} {p p2 pos pos2 : Pos}
/-- many new tuples are tracked -/
theorem Inv.trackT {pins : List (Addr × Obj)} {σ : St} {s : Shared} {n0 : Nat} (hn0 : ∀ {H : Hp} {D : Addr}, n0 ≤ D → H D = none → Aside X pins H D) {Ts : List Addr} {ps : List (V × V)}
    (hP : Paired (fun T (p : V × V) => ∃ x y, RelV p.1 x ∧ RelV p.2 y ∧ IsPair s.heap T x y) Ts ps) : ∀ {H : Hp}, Inv X pins σ H s → (∀ T ∈ Ts, n0 ≤ T ∧ H T = none) → Ts.Nodup →
    ∃ H2, Inv X pins σ H2 s ∧ Same H H2 ∧ Paired (fun T (p : V × V) => H2 T = some (.tup [p.1, p.2])) Ts ps ∧ ∀ D, D ∉ Ts → H2 D = H D := by
  induction hP with
  | nil => exact fun {H} I _ _ => ⟨H, I, fun _ _ e => e, .nil, fun _ _ => rfl⟩
  | @cons T p Ts ps r hP ih =>
    intro H I hf hnd
    obtain ⟨x, y, r1, r2, hp⟩ := r
    obtain ⟨h1, h2⟩ := hf T List.mem_cons_self
    obtain ⟨n1, n2⟩ := List.nodup_cons.mp hnd
    have a := hn0 h1 h2
    have I1 : Inv X pins σ (upd H T (.tup [p.1, p.2])) s := I.track h2 a.ne a.ab a.cl a.pn ⟨szl (Nat.le_of_ble_eq_true rfl), [x, y], .cons r1 (.cons r2 .nil), ⟨_, hp, rfl, _, rfl⟩⟩
    obtain ⟨H2, I2, s2, P2, o2⟩ := ih I1 (fun T' hT' => ⟨(hf T' (List.mem_cons_of_mem _ hT')).1, by
      have ne : T' ≠ T := fun e => n1 (e ▸ hT')
      rw [upd_ne ne]
      exact (hf T' (List.mem_cons_of_mem _ hT')).2⟩) n2
    refine ⟨H2, I2, fun b o e => s2 b o (by rw [upd_ne (ne_of_none e h2)]; exact e), .cons (by rw [o2 T n1, upd_same]) P2, fun D hD => ?_⟩
    rw [o2 D fun z => hD (List.mem_cons_of_mem _ z), upd_ne fun z : D = T => hD (by rw [z]; exact List.mem_cons_self)]
theorem paired_of {α β : Type} {F : α → β → Prop} : ∀ {as : List α} {bs : List β}, as.length = bs.length → (∀ (k : Nat) a b, as[k]? = some a → bs[k]? = some b → F a b) → Paired F as bs
  | [], [], _, _ => .nil
  | a :: as, b :: bs, h, f => .cons (f 0 a b rfl rfl) (paired_of (by simpa using h) fun k a b h1 h2 => f (k + 1) a b (by simpa using h1) (by simpa using h2))
  | [], _ :: _, h, _ => by simp at h
  | _ :: _, [], h, _ => by simp at h
theorem pe_listZip (hK : X.K = K) (hc : X.calm = true) (hg : Gl X "list") (hm : X.mg "list" = none) (hg2 : Gl X "zip") (hm2 : X.mg "zip" = none) (ha : PA X [a, b] t)
    (hs : starEach [a, b] X.env = [(false, eval a X.env), (false, eval b X.env)] := by rfl) (hs2 : starEach [b] X.env = [(false, eval b X.env)] := by rfl)
    (hs3 : starEach [.Call (.Name "zip" p2) [a, b] [] pos2] X.env = [(false, eval (.Call (.Name "zip" p2) [a, b] [] pos2) X.env)] := by rfl) :
    PE X (.Call (.Name "list" p) [.Call (.Name "zip" p2) [a, b] [] pos2] [] pos) (tCB (rListZip K) t) := by
  subst hK
  intro pins s σ H Q I h
  refine wpAny_Call_Name_kw (ld_blt I hg hm bt_list ?_)
  refine PyProof.Rows.callWith_type1 (Q := EP X pins σ Q) ?_ (by rw [hs3]; rfl) (by rfl)
  rw [hs3]
  show wpAny _ _ (spliced [(false, eval (.Call (.Name "zip" p2) [a, b] [] pos2) X.env)]) _ _ _
  refine Calls.spliced_cons (Call_ (ld_blt I hg2 hm2 bt_zip (PyProof.Rows.callWith_type1 (thn (ha pos2 pins s σ H _ I h) fun us s1 ⟨vs, H1, I1, r1, q1⟩ => ?_) (by rw [hs, hs2]) (by rw [hs2]; rfl))))
  obtain ⟨x, y, xs, ys, e, hx, hy, q⟩ := q1
  subst e
  cases r1 with
  | cons r rr =>
    cases rr with
    | cons r' rr =>
      cases rr
      obtain ⟨its, rv, pl, hz⟩ := I1.list hx
      obtain ⟨jts, rw', ql, hz'⟩ := I1.list hy
      cases r
      cases r'
      have a1 : x < s1.heap.objs.size := by obtain ⟨_, e, _⟩ := pl.isList; exact Heap.lt_size e
      have a2 : y < s1.heap.objs.size := by obtain ⟨_, e, _⟩ := ql.isList; exact Heap.lt_size e
      refine call_zip_2 pl.isList ql.isList fun h' b1 b2 b3 b4 b5 b6 b7 => Calls.spliced_nil ?_
      have l1 := rv.length
      have l2 := rw'.length
      refine call_list_zipL (s := { s1 with heap := h' }) (n0 := s1.heap.objs.size) (xs := its.toArray) (ys := jts.toArray) (by exact I.ok.hd hc) (zipApart_new a1 a2) (by simp; omega) (by show _ ≤ h'.objs.size; omega) (by show _ < h'.objs.size; omega) (fun q hq => ?_) b1 ⟨.inl ⟨b1, _, _, b3⟩, b2, b4, b5⟩ (by obtain ⟨o, e, r⟩ := pl.isList; exact ⟨o, b7 _ _ e, r⟩) (by obtain ⟨o, e, r⟩ := ql.isList; exact ⟨o, b7 _ _ e, r⟩) fun h2 Ts c kp hS hTl hG hTS hnd => ?_
      · show q < h'.objs.size
        simp only [List.mem_cons, List.not_mem_nil, or_false] at hq
        rw [b6]
        rcases hq with rfl | rfl | rfl | rfl <;> first | exact Nat.add_lt_add_left (by decide) _ | exact Nat.lt_add_of_pos_right (by decide)
      · have hSize : ({ s1 with heap := h' } : Shared).heap.objs.size = s1.heap.objs.size + 5 := b6
        rw [hSize] at hS hTS ⊢
        have old : ∀ b o, s1.heap.get? b = some o → h2.get? b = some o := fun b o e => by
          have lt := Heap.lt_size e
          exact kp b o (Nat.ne_of_lt (Nat.lt_of_lt_of_le lt (Nat.le_add_right _ _))) (Nat.ne_of_lt (Nat.lt_of_lt_of_le lt (Nat.le_add_right _ _))) (Nat.ne_of_lt lt) (Nat.ne_of_lt (Nat.lt_of_lt_of_le lt (Nat.le_add_right _ _))) (b7 b o e)
        have I2 : Inv X pins σ H1 { s1 with heap := h2 } := I1.kept (t' := s1.toks) old
        have fresh : ∀ D, s1.heap.objs.size ≤ D → H1 D = none := fun D hD => I1.hok.fresh hD
        have hTl2 : Ts.length = (xs.zip ys).length := by
          rw [hTl, List.length_zip]
          simp
          omega
        have hPP : Paired (fun T (p : V × V) => ∃ x y, RelV p.1 x ∧ RelV p.2 y ∧ IsPair h2 T x y) Ts (xs.zip ys) := paired_of hTl2 fun k T pr h1 h3 => by
          obtain ⟨_, ux, uy, e1, e2, e3⟩ := hG k T h1
          rw [List.getElem?_zip_eq_some] at h3
          obtain ⟨h4, h5⟩ := h3
          obtain ⟨u1, f1, g1⟩ := rv.get h4
          obtain ⟨u2, f2, g2⟩ := rw'.get h5
          have z1 : ux = u1 := by
            have : its.toArray[k]? = some u1 := by simpa using f1
            rw [e1] at this
            exact Option.some.inj this
          have z2 : uy = u2 := by
            have : jts.toArray[k]? = some u2 := by simpa using f2
            rw [e2] at this
            exact Option.some.inj this
          subst z1 z2
          exact ⟨ux, uy, g1, g2, e3⟩
        have hTT : ∀ T ∈ Ts, s1.heap.objs.size ≤ T ∧ H1 T = none := fun T hT => by
          obtain ⟨k, hk⟩ := List.mem_iff_getElem?.mp hT
          obtain ⟨z, _⟩ := hG k T hk
          exact ⟨z, fresh T z⟩
        obtain ⟨H2, I3, s3, P3, o3⟩ := Inv.trackT (n0 := s1.heap.objs.size) (fun {H' D} hD hn => I1.aside hD hn) hPP I2 hTT hnd
        have hS0 : s1.heap.objs.size + 5 ∉ Ts := fun z => hTS _ z rfl
        have f5 : H1 (s1.heap.objs.size + 5) = none := fresh _ (by omega)
        have f6 : H2 (s1.heap.objs.size + 5) = none := by rw [o3 _ hS0]; exact f5
        have as := I1.aside (H' := H2) (show s1.heap.objs.size ≤ s1.heap.objs.size + 5 by omega) f6
        have vT : Vals (Ts.map V.ref) (Ts.map Value.ref) := paired_of (by simp) fun k a b h1 h2 => by
          rw [List.getElem?_map] at h1 h2
          obtain ⟨T, e1, rfl⟩ := Option.map_eq_some_iff.mp h1
          rw [e1] at h2
          cases h2
          exact rfl
        have lz : (Ts.map V.ref).length ≤ sizeLine := by
          rw [List.length_map, hTl]
          simp
          omega
        have I4 : Inv X pins σ (upd H2 (s1.heap.objs.size + 5) (.lst (Ts.map V.ref))) { s1 with heap := h2 } := I3.track f6 as.ne as.ab as.cl as.pn ⟨lz, Ts.map Value.ref, c, vT, hS⟩
        refine ⟨.ref (s1.heap.objs.size + 5), _, I4, rfl, q _ Ts _ (fun b o e => by rw [upd_ne (ne_of_none e f5)]; exact s3 b o e) f5 upd_same ?_ hnd hS0⟩
        refine paired_of hTl2 fun k T pr h1 h3 => ?_
        have hTm := List.mem_of_getElem? h1
        refine ⟨?_, ?_⟩
        · obtain ⟨z, _⟩ := hG k T h1
          exact fresh T z
        · have : T ≠ s1.heap.objs.size + 5 := hTS T hTm
          rw [upd_ne this]
          have go : ∀ {as : List Addr} {bs : List (V × V)} {k : Nat} {T : Addr} {pr : V × V}, Paired (fun T (p : V × V) => H2 T = some (.tup [p.1, p.2])) as bs → as[k]? = some T → bs[k]? = some pr → H2 T = some (.tup [pr.1, pr.2]) := by
            intro as bs k T pr P
            induction P generalizing k with
            | nil => intro z; simp at z
            | cons r _ ih =>
              cases k with
              | zero => intro z1 z2; simp at z1 z2; subst z1 z2; exact r
              | succ k => intro z1 z2; exact ih (k := k) (by simpa using z1) (by simpa using z2)
          exact go P3 h1 h3
end
end L2

set_option Elab.async false
set_option linter.all false
set_option maxRecDepth 100000
set_option maxHeartbeats 4000000
namespace My
open PySem L2 M
local macro_rules | `(tactic| walk_at "s1") => `(tactic| first
  | with_reducible refine i_var rfl ?_
  | with_reducible refine i_I0 ?_
  | with_reducible refine iteF ?_
  | with_reducible refine iteNT ?_
  | with_reducible refine iteNF ?_
  | with_reducible refine iteT ?_
  | with_reducible refine i_truB ?_
  | with_reducible refine i_addI ?_
  | with_reducible refine i_U ?_
  | with_reducible refine i_isB ?_
  | with_reducible refine i_isNotB ?_
  | with_reducible refine i_eqI ?_
  | with_reducible refine i_neI ?_
  | with_reducible refine i_intB ?_
  | with_reducible refine i_abs ?_
  | with_reducible refine i_isiII ?_
  | with_reducible refine i_isiIB ?_
  | with_reducible refine i_isiIL ?_
  | with_reducible refine i_isiID ?_
  | with_reducible refine i_isiIT ?_
  | with_reducible refine i_isiBB ?_
  | with_reducible refine i_div (by omega) (by omega) ?_
  | with_reducible refine i_mod (by omega) ?_
  | with_reducible refine And.intro (szl (Nat.le_of_ble_eq_true rfl)) ?_
  | with_reducible refine ⟨_, rfl, ?_⟩)
local macro_rules | `(tactic| walk_at "un") => `(tactic| try dsimp only [tSeq, tAsg, gName, tOp, tUn, tTest, tB, tAnd, tOr, tNot, tAndV, tOrV, tNotV, tIf, tIfS, tRet, tRetN, tDrop, tNext, tCons, tNil, tCB, tCall, tMenu, tComp, iZip2, iEnum, tNoIf, tTru, tJoin, cxOf_K, tLst, tTup, tSl, tPart, tNoPart, tBM, tBM0, tChain, tC, tFor_eq, gTup, gStar, gLst, gCons, gNil, gSub, iList, iRng1, iRng2, iRng3, iTup, iZip3, tWhile, tRev, tRaise, tCallS, tTry, tAug, tPar, tNever, ipI, List.append_nil])
local macro_rules | `(tactic| walk_at "st") => `(tactic| (walk_at "un"; repeat walk_at "s1"))

def top (i : Nat) : Stmt := PySem.Challenge.pw_lugtrain_k37_whole_grabs_either_way_abou.main.body.getD i (.Pass ⟨0, 0, 0, 0⟩)
abbrev s_is_train : Stmt := top 7
theorem sc_is_train : FnScope ["plays"] ["plays"] (defScope s_is_train) := ⟨rfl, rfl, rfl, by decide +kernel, rfl, by decide +kernel, by decide +kernel⟩
theorem bd_is_train (kV doc pm : Value) (an : Option Addr) (cdv ct : Value) (us : List Value) (hl : us.length = (["plays"] : List Str).length) : bindArgs (PySem.W.fnOf "is_train" "is_train" (defArgs s_is_train) (defBody s_is_train) (defScope s_is_train) .none kV doc pm an cdv ct) ⟨us, []⟩ = pure ((["plays"] : List Str).zip us) := match us, hl with | [_], _ => rfl
abbrev s_refuse_no_train : Stmt := top 8
theorem sc_refuse_no_train : FnScope ["plays"] ["plays"] (defScope s_refuse_no_train) := ⟨rfl, rfl, rfl, by decide +kernel, rfl, by decide +kernel, by decide +kernel⟩
theorem bd_refuse_no_train (kV doc pm : Value) (an : Option Addr) (cdv ct : Value) (us : List Value) (hl : us.length = (["plays"] : List Str).length) : bindArgs (PySem.W.fnOf "refuse_no_train" "refuse_no_train" (defArgs s_refuse_no_train) (defBody s_refuse_no_train) (defScope s_refuse_no_train) .none kV doc pm an cdv ct) ⟨us, []⟩ = pure ((["plays"] : List Str).zip us) := match us, hl with | [_], _ => rfl
abbrev s_keeps_plays : Stmt := top 9
theorem sc_keeps_plays : FnScope ["plays", "handle", "wheels", "ahead", "play", "at"] ["plays", "handle", "wheels"] (defScope s_keeps_plays) := ⟨rfl, rfl, rfl, by decide +kernel, rfl, by decide +kernel, by decide +kernel⟩
theorem bd_keeps_plays (kV doc pm : Value) (an : Option Addr) (cdv ct : Value) (us : List Value) (hl : us.length = (["plays", "handle", "wheels"] : List Str).length) : bindArgs (PySem.W.fnOf "keeps_plays" "keeps_plays" (defArgs s_keeps_plays) (defBody s_keeps_plays) (defScope s_keeps_plays) .none kV doc pm an cdv ct) ⟨us, []⟩ = pure ((["plays", "handle", "wheels"] : List Str).zip us) := match us, hl with | [_, _, _], _ => rfl
abbrev s_is_stand : Stmt := top 10
theorem sc_is_stand : FnScope ["plays", "handle", "wheels"] ["plays", "handle", "wheels"] (defScope s_is_stand) := ⟨rfl, rfl, rfl, by decide +kernel, rfl, by decide +kernel, by decide +kernel⟩
theorem bd_is_stand (kV doc pm : Value) (an : Option Addr) (cdv ct : Value) (us : List Value) (hl : us.length = (["plays", "handle", "wheels"] : List Str).length) : bindArgs (PySem.W.fnOf "is_stand" "is_stand" (defArgs s_is_stand) (defBody s_is_stand) (defScope s_is_stand) .none kV doc pm an cdv ct) ⟨us, []⟩ = pure ((["plays", "handle", "wheels"] : List Str).zip us) := match us, hl with | [_, _, _], _ => rfl
abbrev s_refuse_no_stand : Stmt := top 11
theorem sc_refuse_no_stand : FnScope ["plays", "handle", "wheels"] ["plays", "handle", "wheels"] (defScope s_refuse_no_stand) := ⟨rfl, rfl, rfl, by decide +kernel, rfl, by decide +kernel, by decide +kernel⟩
theorem bd_refuse_no_stand (kV doc pm : Value) (an : Option Addr) (cdv ct : Value) (us : List Value) (hl : us.length = (["plays", "handle", "wheels"] : List Str).length) : bindArgs (PySem.W.fnOf "refuse_no_stand" "refuse_no_stand" (defArgs s_refuse_no_stand) (defBody s_refuse_no_stand) (defScope s_refuse_no_stand) .none kV doc pm an cdv ct) ⟨us, []⟩ = pure ((["plays", "handle", "wheels"] : List Str).zip us) := match us, hl with | [_, _, _], _ => rfl
abbrev s_dragged : Stmt := top 12
theorem sc_dragged : FnScope ["play", "ahead", "at"] ["play", "ahead", "at"] (defScope s_dragged) := ⟨rfl, rfl, rfl, by decide +kernel, rfl, by decide +kernel, by decide +kernel⟩
theorem bd_dragged (kV doc pm : Value) (an : Option Addr) (cdv ct : Value) (us : List Value) (hl : us.length = (["play", "ahead", "at"] : List Str).length) : bindArgs (PySem.W.fnOf "dragged" "dragged" (defArgs s_dragged) (defBody s_dragged) (defScope s_dragged) .none kV doc pm an cdv ct) ⟨us, []⟩ = pure ((["play", "ahead", "at"] : List Str).zip us) := match us, hl with | [_, _, _], _ => rfl
abbrev s_all_dragged : Stmt := top 13
theorem sc_all_dragged : FnScope ["plays", "wheels", "place", "places", "ahead", "play", "at"] ["plays", "wheels", "place"] (defScope s_all_dragged) := ⟨rfl, rfl, rfl, by decide +kernel, rfl, by decide +kernel, by decide +kernel⟩
theorem bd_all_dragged (kV doc pm : Value) (an : Option Addr) (cdv ct : Value) (us : List Value) (hl : us.length = (["plays", "wheels", "place"] : List Str).length) : bindArgs (PySem.W.fnOf "all_dragged" "all_dragged" (defArgs s_all_dragged) (defBody s_all_dragged) (defScope s_all_dragged) .none kV doc pm an cdv ct) ⟨us, []⟩ = pure ((["plays", "wheels", "place"] : List Str).zip us) := match us, hl with | [_, _, _], _ => rfl
abbrev s_turned : Stmt := top 14
theorem sc_turned : FnScope ["plays", "handle", "wheels", "place"] ["plays", "handle", "wheels", "place"] (defScope s_turned) := ⟨rfl, rfl, rfl, by decide +kernel, rfl, by decide +kernel, by decide +kernel⟩
theorem bd_turned (kV doc pm : Value) (an : Option Addr) (cdv ct : Value) (us : List Value) (hl : us.length = (["plays", "handle", "wheels", "place"] : List Str).length) : bindArgs (PySem.W.fnOf "turned" "turned" (defArgs s_turned) (defBody s_turned) (defScope s_turned) .none kV doc pm an cdv ct) ⟨us, []⟩ = pure ((["plays", "handle", "wheels", "place"] : List Str).zip us) := match us, hl with | [_, _, _, _], _ => rfl
abbrev s_refuse_no_piece : Stmt := top 16
theorem sc_refuse_no_piece : FnScope ["plays", "piece"] ["plays", "piece"] (defScope s_refuse_no_piece) := ⟨rfl, rfl, rfl, by decide +kernel, rfl, by decide +kernel, by decide +kernel⟩
theorem bd_refuse_no_piece (kV doc pm : Value) (an : Option Addr) (cdv ct : Value) (us : List Value) (hl : us.length = (["plays", "piece"] : List Str).length) : bindArgs (PySem.W.fnOf "refuse_no_piece" "refuse_no_piece" (defArgs s_refuse_no_piece) (defBody s_refuse_no_piece) (defScope s_refuse_no_piece) .none kV doc pm an cdv ct) ⟨us, []⟩ = pure ((["plays", "piece"] : List Str).zip us) := match us, hl with | [_, _], _ => rfl
abbrev s_moved : Stmt := top 17
theorem sc_moved : FnScope ["plays", "handle", "wheels", "piece", "place", "pieces", "many", "ahead", "behind", "end", "places"] ["plays", "handle", "wheels", "piece", "place"] (defScope s_moved) := ⟨rfl, rfl, rfl, by decide +kernel, rfl, by decide +kernel, by decide +kernel⟩
theorem bd_moved (kV doc pm : Value) (an : Option Addr) (cdv ct : Value) (us : List Value) (hl : us.length = (["plays", "handle", "wheels", "piece", "place"] : List Str).length) : bindArgs (PySem.W.fnOf "moved" "moved" (defArgs s_moved) (defBody s_moved) (defScope s_moved) .none kV doc pm an cdv ct) ⟨us, []⟩ = pure ((["plays", "handle", "wheels", "piece", "place"] : List Str).zip us) := match us, hl with | [_, _, _, _, _], _ => rfl
abbrev s_grabbed : Stmt := top 18
theorem sc_grabbed : FnScope ["plays", "handle", "wheels", "piece", "place"] ["plays", "handle", "wheels", "piece", "place"] (defScope s_grabbed) := ⟨rfl, rfl, rfl, by decide +kernel, rfl, by decide +kernel, by decide +kernel⟩
theorem bd_grabbed (kV doc pm : Value) (an : Option Addr) (cdv ct : Value) (us : List Value) (hl : us.length = (["plays", "handle", "wheels", "piece", "place"] : List Str).length) : bindArgs (PySem.W.fnOf "grabbed" "grabbed" (defArgs s_grabbed) (defBody s_grabbed) (defScope s_grabbed) .none kV doc pm an cdv ct) ⟨us, []⟩ = pure ((["plays", "handle", "wheels", "piece", "place"] : List Str).zip us) := match us, hl with | [_, _, _, _, _], _ => rfl
abbrev s_grabs_of : Stmt := top 19
theorem sc_grabs_of : FnScope ["plays", "handle", "wheels", "row", "piece", "place", "stands"] ["plays", "handle", "wheels", "row"] (defScope s_grabs_of) := ⟨rfl, rfl, rfl, by decide +kernel, rfl, by decide +kernel, by decide +kernel⟩
theorem bd_grabs_of (kV doc pm : Value) (an : Option Addr) (cdv ct : Value) (us : List Value) (hl : us.length = (["plays", "handle", "wheels", "row"] : List Str).length) : bindArgs (PySem.W.fnOf "grabs_of" "grabs_of" (defArgs s_grabs_of) (defBody s_grabs_of) (defScope s_grabs_of) .none kV doc pm an cdv ct) ⟨us, []⟩ = pure ((["plays", "handle", "wheels", "row"] : List Str).zip us) := match us, hl with | [_, _, _, _], _ => rfl
abbrev s_law_cell_at : Stmt := top 21
theorem sc_law_cell_at : FnScope ["script", "k"] ["script", "k"] (defScope s_law_cell_at) := ⟨rfl, rfl, rfl, by decide +kernel, rfl, by decide +kernel, by decide +kernel⟩
theorem bd_law_cell_at (kV doc pm : Value) (an : Option Addr) (cdv ct : Value) (us : List Value) (hl : us.length = (["script", "k"] : List Str).length) : bindArgs (PySem.W.fnOf "_law_cell_at" "_law_cell_at" (defArgs s_law_cell_at) (defBody s_law_cell_at) (defScope s_law_cell_at) .none kV doc pm an cdv ct) ⟨us, []⟩ = pure ((["script", "k"] : List Str).zip us) := match us, hl with | [_, _], _ => rfl
abbrev s_law_draws : Stmt := top 22
theorem sc_law_draws : FnScope ["cell", "many", "base", "found", "rest", "stirred", "k"] ["cell", "many", "base"] (defScope s_law_draws) := ⟨rfl, rfl, rfl, by decide +kernel, rfl, by decide +kernel, by decide +kernel⟩
theorem bd_law_draws (kV doc pm : Value) (an : Option Addr) (cdv ct : Value) (us : List Value) (hl : us.length = (["cell", "many", "base"] : List Str).length) : bindArgs (PySem.W.fnOf "_law_draws" "_law_draws" (defArgs s_law_draws) (defBody s_law_draws) (defScope s_law_draws) .none kV doc pm an cdv ct) ⟨us, []⟩ = pure ((["cell", "many", "base"] : List Str).zip us) := match us, hl with | [_, _, _], _ => rfl
abbrev s_law_train : Stmt := top 23
theorem sc_law_train : FnScope ["script", "heads", "many", "far", "picks", "plays", "wheels", "handle", "ahead", "k", "play", "side"] ["script"] (defScope s_law_train) := ⟨rfl, rfl, rfl, by decide +kernel, rfl, by decide +kernel, by decide +kernel⟩
theorem bd_law_train (kV doc pm : Value) (an : Option Addr) (cdv ct : Value) (us : List Value) (hl : us.length = (["script"] : List Str).length) : bindArgs (PySem.W.fnOf "_law_train" "_law_train" (defArgs s_law_train) (defBody s_law_train) (defScope s_law_train) .none kV doc pm an cdv ct) ⟨us, []⟩ = pure ((["script"] : List Str).zip us) := match us, hl with | [_], _ => rfl
abbrev s_law_a_about : Stmt := top 24
theorem sc_law_a_about : FnScope ["stand", "lies"] ["stand"] (defScope s_law_a_about) := ⟨rfl, rfl, rfl, by decide +kernel, rfl, by decide +kernel, by decide +kernel⟩
theorem bd_law_a_about (kV doc pm : Value) (an : Option Addr) (cdv ct : Value) (us : List Value) (hl : us.length = (["stand"] : List Str).length) : bindArgs (PySem.W.fnOf "_law_a_about" "_law_a_about" (defArgs s_law_a_about) (defBody s_law_a_about) (defScope s_law_a_about) .none kV doc pm an cdv ct) ⟨us, []⟩ = pure ((["stand"] : List Str).zip us) := match us, hl with | [_], _ => rfl
abbrev s_law_a_far : Stmt := top 25
theorem sc_law_a_far : FnScope ["stand", "other", "piece", "both", "moved_so", "up", "down"] ["stand", "other", "piece"] (defScope s_law_a_far) := ⟨rfl, rfl, rfl, by decide +kernel, rfl, by decide +kernel, by decide +kernel⟩
theorem bd_law_a_far (kV doc pm : Value) (an : Option Addr) (cdv ct : Value) (us : List Value) (hl : us.length = (["stand", "other", "piece"] : List Str).length) : bindArgs (PySem.W.fnOf "_law_a_far" "_law_a_far" (defArgs s_law_a_far) (defBody s_law_a_far) (defScope s_law_a_far) .none kV doc pm an cdv ct) ⟨us, []⟩ = pure ((["stand", "other", "piece"] : List Str).zip us) := match us, hl with | [_, _, _], _ => rfl
abbrev s_law_alike : Stmt := top 26
theorem sc_law_alike : FnScope ["plays", "handle", "wheels", "row", "found", "many", "other", "turned_row", "about", "by", "moved_on", "later", "over"] ["plays", "handle", "wheels", "row", "found"] (defScope s_law_alike) := ⟨rfl, rfl, rfl, by decide +kernel, rfl, by decide +kernel, by decide +kernel⟩
theorem bd_law_alike (kV doc pm : Value) (an : Option Addr) (cdv ct : Value) (us : List Value) (hl : us.length = (["plays", "handle", "wheels", "row", "found"] : List Str).length) : bindArgs (PySem.W.fnOf "_law_alike" "_law_alike" (defArgs s_law_alike) (defBody s_law_alike) (defScope s_law_alike) .none kV doc pm an cdv ct) ⟨us, []⟩ = pure ((["plays", "handle", "wheels", "row", "found"] : List Str).zip us) := match us, hl with | [_, _, _, _, _], _ => rfl
abbrev s_law : Stmt := top 27
theorem sc_law : FnScope ["script", "plays", "handle", "wheels", "many", "span", "row", "cell", "picks", "place", "pick", "found", "here", "k", "piece", "due", "lies"] ["script"] (defScope s_law) := ⟨rfl, rfl, rfl, by decide +kernel, rfl, by decide +kernel, by decide +kernel⟩
structure Txt (mg : Str → Option Value) : Prop where
  z_abs : mg "abs" = none
  z_int : mg "int" = none
  z_len : mg "len" = none
  z_list : mg "list" = none
  z_min : mg "min" = none
  z_range : mg "range" = none
  z_sorted : mg "sorted" = none
  z_sum : mg "sum" = none
  z_zip : mg "zip" = none
  g_MOST_PLAYS : ∃ t, mg "MOST_PLAYS" = some (.int 12 t)
section
variable {P : Program} {w : World} {K : PySem.W.Frag} {mg : Str → Option Value} {base : Heap}
/-- a new list of ints has come -/
structure NewI (H H' : Hp) (l : Addr) (xs : List Int) : Prop where
  fr : H l = none
  sm : Same H H'
  at_ : H' l = some (.lst (iL xs))
theorem NewI.app {H H' : Hp} {l : Addr} {xs : List Int} {x : Int} (N : NewI H H' l xs) : NewI H (upd H' l (.lst (iL xs ++ [V.int x]))) l (xs ++ [x]) :=
  ⟨N.fr, fun b o e => by rw [upd_ne (ne_of_none e N.fr)]; exact N.sm b o e, by rw [upd_same]; simp [iL]⟩
theorem NewI.more {H H' H2 : Hp} {l : Addr} {xs : List Int} (N : NewI H H' l xs) (s : Same H' H2) : NewI H H2 l xs := ⟨N.fr, N.sm.trans s, s _ _ N.at_⟩
def spLaw (K : PySem.W.Frag) : Sp := fun vs H Q _ => ∃ (a : Addr) (ns : List Int), vs = [.ref a] ∧ SqL K H a (ns.map V.int) ∧ ns.length ≤ 63 ∧ ∀ H', Q (.bl true) H'

def spCellAt (K : PySem.W.Frag) : Sp := fun vs H Q _ => ∃ (a : Addr) (ns : List Int) (k : Int), vs = [.ref a, .int k] ∧ SqL K H a (iL ns) ∧ 0 ≤ k ∧ ∀ v, Q (.int v) H
theorem ok_law_cell_at (T : Txt mg) (D : Def K mg "_law_cell_at" s_law_cell_at) : Callee P w K mg base "_law_cell_at" 1 (spCellAt K) := by
  refine D.ok sc_law_cell_at bd_law_cell_at (fun vs H Q E h => ?len) (fun f cdv A outer s H vs Q E hr h => ?body)
  case len => obtain ⟨a, ns, k, rfl, _⟩ := h; rfl
  case body =>
    obtain ⟨a, ns, kk, rfl, hS, h0, k⟩ := h
    have hu := hr.units
    refine ⟨_, (pss_cons (ps_if (pt_cmpR op_lt (pv 1) (pe_callB (call_lenK K) (by rfl) T.z_len bt_len (pa_cons (pv 0) pa_nil)) (nomark _))
 (pss_one (ps_ret (pe_ix (ix_K K) (pv 0) (pv 1) (by exact fun _ _ => rfl))))
 pss_nil)
 (pss_one (ps_ret pe_int))), ?_⟩
    dsimp only [tSeq, tAsg, gName, tOp, tUn, tTest, tB, tAnd, tOr, tNot, tAndV, tOrV, tNotV, tIf, tIfS, tRet, tRetN, tDrop, tNext, tCons, tNil, tCB, tCall, tMenu, tComp, iZip2, iEnum, tNoIf, tTru, tJoin, cxOf_K, tLst, tTup, tSl, tPart, tNoPart, tBM, tBM0, tChain, tC, tFor_eq, gTup, gStar, gLst, gCons, gNil, gSub, iList, iRng1, iRng2, iRng3, iTup, iZip3, tWhile, tRev, tRaise, tCallS, tTry, tAug, tPar, tNever, ipI, List.append_nil]
    walk_at "st"
    refine i_lenI hS ?_
    walk_at "st"
    refine i_if (fun g => ?_) (fun g => ?_)
    · walk_at "st"
      exact i_ixL hS h0 g (fun v _ _ => k v)
    · walk_at "st"
      exact k 0

def spDraws : Sp := fun vs H Q _ => ∃ cell many bas : Int, vs = [.int cell, .int many, .int bas] ∧ 0 ≤ many ∧ many ≤ 5000 ∧ 0 < bas ∧ bas < 1073741824 ∧
  ∀ l H' xs, NewI H H' l xs → (xs.length : Int) = many → (∀ x ∈ xs, 0 ≤ x ∧ x < bas) → Q (.ref l) H'
theorem ok_law_draws (T : Txt mg) (D : Def K mg "_law_draws" s_law_draws) : Callee P w K mg base "_law_draws" 1 spDraws := by
  refine D.ok sc_law_draws bd_law_draws (fun vs H Q E h => ?len) (fun f cdv A outer s H vs Q E hr h => ?body)
  case len => obtain ⟨p, a, x, rfl, _⟩ := h; rfl
  case body =>
    obtain ⟨cell, many, bas, rfl, h1, h2, h3, h4, k⟩ := h
    refine ⟨_, (pss_cons (ps_set (i := 3) sc_law_draws.nd rfl (Or.inl rfl) (pe_lst pa_nil))
 (pss_cons (ps_set (i := 4) sc_law_draws.nd rfl (Or.inl rfl) (pe_op op_mulP (pv 0) (pe_callTy call_intK (by rfl) T.z_int bt_int (pa_cons (pe_cmpR op_ge (pv 0) (pe_powK (r := 1000000000000000000) (by decide)) (nomark _)) pa_nil))))
 (pss_cons (ps_set (i := 5) sc_law_draws.nd rfl (Or.inl rfl) (pe_op op_mod (pv 0) pe_int))
 (pss_cons (ps_for PassesOwn.never rfl (pi_range1 (by rfl) T.z_range (pa_cons (pe_op op_addP (pv 1) pe_int) pa_nil)) (pg_name (i := 6) sc_law_draws.nd rfl (Or.inl rfl))
 (pss_cons (ps_set (i := 5) sc_law_draws.nd rfl (Or.inl rfl) (pe_op op_mod (pe_op op_addP (pe_op op_addP (pe_op op_addP (pe_op op_mulP (pv 5) (pv 5)) (pe_op op_mulP pe_int (pv 5))) (pv 6)) pe_int) pe_int))
 (pss_one (ps_if (PW.pt (pw_and (pt_cmpR op_gt (pv 6) pe_int (nomark _)) (pw_and1 (pt_cmpR op_gt (pv 4) pe_int (nomark _)))))
 (pss_cons (ps_expr (pe_bmK K PySem.F.plainAttrs_list PySem.F.slot_list_append PySem.F.type_list_append mt_append (pv 3) (pa_cons (pe_op op_mod (pv 4) (pv 2)) pa_nil)))
 (pss_one (ps_set (i := 4) sc_law_draws.nd rfl (Or.inl rfl) (pe_op op_fdiv (pv 4) (pv 2)))))
 (pss_one (ps_if (pt_cmpR op_gt (pv 6) pe_int (nomark _))
 (pss_one (ps_expr (pe_bmK K PySem.F.plainAttrs_list PySem.F.slot_list_append PySem.F.type_list_append mt_append (pv 3) (pa_cons (pe_op op_mod (pe_op op_fdiv (pv 5) pe_int) (pv 2)) pa_nil))))
 pss_nil))))))
 (pss_one (ps_ret (pv 3))))))), ?_⟩
    dsimp only [tSeq, tAsg, gName, tOp, tUn, tTest, tB, tAnd, tOr, tNot, tAndV, tOrV, tNotV, tIf, tIfS, tRet, tRetN, tDrop, tNext, tCons, tNil, tCB, tCall, tMenu, tComp, iZip2, iEnum, tNoIf, tTru, tJoin, cxOf_K, tLst, tTup, tSl, tPart, tNoPart, tBM, tBM0, tChain, tC, tFor_eq, gTup, gStar, gLst, gCons, gNil, gSub, iList, iRng1, iRng2, iRng3, iTup, iZip3, tWhile, tRev, tRaise, tCallS, tTry, tAug, tPar, tNever, ipI, List.append_nil]
    refine ⟨szl (by decide), fun l hl => ?_⟩
    walk_at "st"
    refine i_mulI (cmul_r ?_ ?_) ?_
    · split <;> decide
    · split <;> decide
    generalize cell * _ = rest
    walk_at "st"
    have hst0 : 0 ≤ cell % 2305843009213693951 := Int.emod_nonneg _ (by decide)
    have hst1 : cell % 2305843009213693951 < 2305843009213693951 := Int.emod_lt_of_pos _ (by decide)
    generalize cell % 2305843009213693951 = stirred at *
    refine ⟨by omega, by omega, lp_range (fun i σ H2 => ∃ (rest stirred : Int) (kk : Option V) (xs : List Int), σ = [some (.int cell), some (.int many), some (.int bas), some (.ref l), some (.int rest), some (.int stirred), kk] ∧
      0 ≤ stirred ∧ stirred < 2305843009213693951 ∧ NewI H H2 l xs ∧ xs.length = i - 3 ∧ ∀ x ∈ xs, 0 ≤ x ∧ x < bas) ?_ ?_ ?_⟩
    · exact ⟨rest, stirred, none, [], rfl, hst0, hst1, ⟨hl, same_upd hl, upd_same⟩, rfl, by simp⟩
    · rintro i σ H2 hi ⟨rest, stirred, kk, xs, rfl, s0, s1, N, hx, hb⟩
      walk_at "st"
      refine i_mulI (cmul_l (by omega) (by omega)) ?_
      walk_at "st"
      refine i_mulI (cmul_l (by decide) (by decide)) ?_
      walk_at "st"
      have hst0 := Int.emod_nonneg (stirred * stirred + 48271 * stirred + (0 + (i : Int)) + 1) (show (2305843009213693951 : Int) ≠ 0 by decide)
      have hst1 := Int.emod_lt_of_pos (stirred * stirred + 48271 * stirred + (0 + (i : Int)) + 1) (show (0 : Int) < 2305843009213693951 by decide)
      generalize (stirred * stirred + 48271 * stirred + (0 + (i : Int)) + 1) % 2305843009213693951 = stirred2 at *
      have app : ∀ v, 3 ≤ i → 0 ≤ v → v < bas → ∀ rest2, ∃ (rest stirred : Int) (kk : Option V) (ys : List Int), [some (V.int cell), some (.int many), some (.int bas), some (.ref l), some (.int rest2), some (.int stirred2), some (V.int (0 + (i : Int)))] = [some (.int cell), some (.int many), some (.int bas), some (.ref l), some (.int rest), some (.int stirred), kk] ∧
        0 ≤ stirred ∧ stirred < 2305843009213693951 ∧ NewI H (upd H2 l (.lst (iL xs ++ [V.int v]))) l ys ∧ ys.length = i + 1 - 3 ∧ ∀ x ∈ ys, 0 ≤ x ∧ x < bas := by
        intro v hi3 hv0 hv1 rest2
        refine ⟨rest2, stirred2, some (V.int (0 + (i : Int))), xs ++ [v], rfl, hst0, hst1, N.app, ?_, ?_⟩
        · simp; omega
        · intro x hxm
          rcases List.mem_append.mp hxm with z | z
          · exact hb x z
          · simp at z; subst z; exact ⟨hv0, hv1⟩
      have lenx : xs.length ≤ 100000 := by omega
      refine i_if (fun g1 => ?_) (fun g1 => ?_)
      · walk_at "st"
        refine i_if (fun g2 => ?_) (fun g2 => ?_)
        · walk_at "st"
          refine ⟨.inl ⟨rfl, _, SqL.of N.at_⟩, ?_⟩
          walk_at "st"
          refine i_app N.at_ (szlt (by simpa [iL] using lenx)) ?_
          walk_at "st"
          exact app _ (by omega) (Int.emod_nonneg _ (by omega)) (Int.emod_lt_of_pos _ h3) _
        · walk_at "st"
          refine i_if (fun g3 => ?_) (fun g3 => absurd g1 g3)
          walk_at "st"
          refine ⟨.inl ⟨rfl, _, SqL.of N.at_⟩, ?_⟩
          walk_at "st"
          refine i_app N.at_ (szlt (by simpa [iL] using lenx)) ?_
          exact app _ (by omega) (Int.emod_nonneg _ (by omega)) (Int.emod_lt_of_pos _ h3) _
      · walk_at "st"
        refine i_if (fun g3 => absurd g3 g1) (fun g3 => ?_)
        exact ⟨rest, stirred2, _, xs, rfl, hst0, hst1, N, by omega, hb⟩
    · rintro σ H2 ⟨rest, stirred, kk, xs, rfl, s0, s1, N, hx, hb⟩
      walk_at "st"
      exact k l H2 xs N (by omega) hb

--SPLIT
theorem paired_getL {α β : Type} {F : α → β → Prop} : ∀ {as : List α} {bs : List β} {i : Nat} {a : α}, Paired F as bs → as[i]? = some a → ∃ b, bs[i]? = some b ∧ F a b
  | _, _, i, b, .nil, h => by simp at h
  | _, _, 0, b, .cons r _, h => by simp at h; subst h; exact ⟨_, rfl, r⟩
  | _, _, i + 1, b, .cons _ t, h => by
    obtain ⟨a, h1, h2⟩ := paired_getL (i := i) (a := b) t (by simpa using h)
    exact ⟨a, by simpa using h1, h2⟩
abbrev MsAt (H : Hp) (ts : List Addr) (ms : List (Int × Int)) : Prop := Paired (fun t (m : Int × Int) => H t = some (.tup [.int m.1, .int m.2])) ts ms
theorem MsAt.more {H H' : Hp} {ts : List Addr} {ms : List (Int × Int)} (h : MsAt H ts ms) (s : Same H H') : MsAt H' ts ms := Paired.mapP h fun _ _ e => s _ _ e
theorem MsAt.up {H : Hp} {l : Addr} {vs ws : List V} {ts : List Addr} {ms : List (Int × Int)} (h : MsAt H ts ms) (hl : H l = some (.lst ws)) : MsAt (upd H l (.lst vs)) ts ms :=
  Paired.mapP h fun t m e => by
    have : t ≠ l := fun z => by rw [z, hl] at e; cases e
    rw [upd_ne this]; exact e

/-- a stand as a tuple: the handle and a list of the wheels -/
def StAt (H : Hp) (t : Addr) (L : List Int) : Prop := ∃ lw h ws, L = h :: ws ∧ H t = some (.tup [.int h, .ref lw]) ∧ H lw = some (.lst (iL ws))
theorem StAt.more {H H' : Hp} {t : Addr} {L : List Int} (h : StAt H t L) (s : Same H H') : StAt H' t L := by
  obtain ⟨lw, x, ws, e, a, b⟩ := h
  exact ⟨lw, x, ws, e, s _ _ a, s _ _ b⟩

def spIsTrain (K : PySem.W.Frag) : Sp := fun vs H Q _ => ∃ (a : Addr) (ps : List Int), vs = [.ref a] ∧ SqL K H a (iL ps) ∧ ∀ b : Bool, (b = true ↔ isTr ps) → Q (.bl b) H
theorem ok_is_train (T : Txt mg) (D : Def K mg "is_train" s_is_train) : Callee P w K mg base "is_train" 1 (spIsTrain K) := by
  refine D.ok sc_is_train bd_is_train (fun vs H Q E h => ?len) (fun f cdv A outer s H vs Q E hr h => ?body)
  case len => obtain ⟨a, ps, rfl, _⟩ := h; rfl
  case body =>
    obtain ⟨a, ps, rfl, hS, k⟩ := h
    refine ⟨_, (pss_one (ps_ret (pe_and (pe_chain op_le op_le pe_int (pe_callB (call_lenK K) (by rfl) T.z_len bt_len (pa_cons (pv 0) pa_nil)) (pe_globI T.g_MOST_PLAYS (by rfl))) (pe_one (pe_cmpR op_ge (pe_callB (call_minK K) (by rfl) T.z_min bt_min (pa_cons (pv 0) pa_nil)) pe_int (nomark _)))))), ?_⟩
    dsimp only [tSeq, tAsg, gName, tOp, tUn, tTest, tB, tAnd, tOr, tNot, tAndV, tOrV, tNotV, tIf, tIfS, tRet, tRetN, tDrop, tNext, tCons, tNil, tCB, tCall, tMenu, tComp, iZip2, iEnum, tNoIf, tTru, tJoin, cxOf_K, tLst, tTup, tSl, tPart, tNoPart, tBM, tBM0, tChain, tC, tFor_eq, gTup, gStar, gLst, gCons, gNil, gSub, iList, iRng1, iRng2, iRng3, iTup, iZip3, tWhile, tRev, tRaise, tCallS, tTry, tAug, tPar, tNever, ipI, List.append_nil]
    walk_at "st"
    refine i_lenI hS ?_
    walk_at "st"
    refine i_if (fun g1 => ?_) (fun g1 => ?_)
    · walk_at "st"
      refine i_if (fun g2 => ?_) (fun g2 => ?_)
      · walk_at "st"
        refine i_minL hS (by omega) (fun m hm hle => ?_)
        walk_at "st"
        refine k _ ⟨fun z => ⟨by omega, by omega, fun p hp => ?_⟩, fun z => ?_⟩
        · have := hle p hp
          have := of_decide_eq_true z
          omega
        · exact decide_eq_true (z.2.2 m hm)
      · exact k _ ⟨fun z => (Bool.noConfusion z), fun z => absurd z.2.1 (by omega)⟩
    · walk_at "st"
      exact k _ ⟨fun z => (Bool.noConfusion z), fun z => absurd z.1 (by omega)⟩

def spRefTrain (K : PySem.W.Frag) : Sp := fun vs H Q _ => ∃ (a : Addr) (ps : List Int), vs = [.ref a] ∧ SqL K H a (iL ps) ∧ isTr ps ∧ Q .non H
theorem ok_refuse_no_train (T : Txt mg) (D : Def K mg "refuse_no_train" s_refuse_no_train) (C_is_train : Callee P w K mg base "is_train" 1 (spIsTrain K)) : Callee P w K mg base "refuse_no_train" 2 (spRefTrain K) := by
  refine D.ok sc_refuse_no_train bd_refuse_no_train (fun vs H Q E h => ?len) (fun f cdv A outer s H vs Q E hr h => ?body)
  case len => obtain ⟨a, ps, rfl, _⟩ := h; rfl
  case body =>
    obtain ⟨a, ps, rfl, hS, ht, k⟩ := h
    refine ⟨_, (pss_one (ps_if (pt_not (pt_truthK K (pe_callN C_is_train (hr.mono (by decide)) (by rfl) (pa_cons (pv 0) pa_nil))))
 (pss_one ps_never)
 pss_nil)), ?_⟩
    dsimp only [tSeq, tAsg, gName, tOp, tUn, tTest, tB, tAnd, tOr, tNot, tAndV, tOrV, tNotV, tIf, tIfS, tRet, tRetN, tDrop, tNext, tCons, tNil, tCB, tCall, tMenu, tComp, iZip2, iEnum, tNoIf, tTru, tJoin, cxOf_K, tLst, tTup, tSl, tPart, tNoPart, tBM, tBM0, tChain, tC, tFor_eq, gTup, gStar, gLst, gCons, gNil, gSub, iList, iRng1, iRng2, iRng3, iTup, iZip3, tWhile, tRev, tRaise, tCallS, tTry, tAug, tPar, tNever, ipI, List.append_nil]
    walk_at "st"
    refine ⟨a, ps, rfl, hS, fun b hb => ?_⟩
    cases hb.mpr ht
    walk_at "st"
    exact k

def spKeeps (K : PySem.W.Frag) : Sp := fun vs H Q _ => ∃ (a b : Addr) (ps xs : List Int) (hd : Int), vs = [.ref a, .int hd, .ref b] ∧ SqL K H a (iL ps) ∧ SqL K H b (iL xs) ∧ ∀ (r : Bool) H', (r = true ↔ keeps ps hd xs) → Same H H' → Q (.bl r) H'
theorem keeps_end {ps xs : List Int} {a : Int} : keeps (ps.drop (min ps.length xs.length)) a (xs.drop (min ps.length xs.length)) := by
  by_cases h : ps.length ≤ xs.length
  · rw [Nat.min_eq_left h, List.drop_of_length_le (Nat.le_refl _)]; trivial
  · rw [Nat.min_eq_right (by omega), List.drop_of_length_le (l := xs) (Nat.le_refl _)]
    cases ps.drop xs.length <;> trivial
theorem ok_keeps_plays (T : Txt mg) (D : Def K mg "keeps_plays" s_keeps_plays) : Callee P w K mg base "keeps_plays" 1 (spKeeps K) := by
  refine D.ok sc_keeps_plays bd_keeps_plays (fun vs H Q E h => ?len) (fun f cdv A outer s H vs Q E hr h => ?body)
  case len => obtain ⟨a, b, ps, xs, hd, rfl, _⟩ := h; rfl
  case body =>
    obtain ⟨a, b, ps, xs, hd, rfl, hA, hB, k⟩ := h
    refine ⟨_, (pss_cons (ps_set (i := 3) sc_keeps_plays.nd rfl (Or.inl rfl) (pv 1))
 (pss_cons (ps_for PassesOwn.never rfl (pi_zip2K K (by rfl) T.z_zip (pa_cons (pv 0) (pa_cons (pv 2) pa_nil))) (pg_tupK K 2 (pgs_cons (pg_name (i := 4) sc_keeps_plays.nd rfl (Or.inl rfl)) (pgs_cons (pg_name (i := 5) sc_keeps_plays.nd rfl (Or.inl rfl)) pgs_nil)))
 (pss_cons (ps_if (pt_cmpR op_gt (pe_callB call_absK (by rfl) T.z_abs bt_abs (pa_cons (pe_op op_sub (pv 5) (pv 3)) pa_nil)) (pv 4) (nomark _))
 (pss_one (ps_ret pe_bl))
 pss_nil)
 (pss_one (ps_set (i := 3) sc_keeps_plays.nd rfl (Or.inl rfl) (pv 5)))))
 (pss_one (ps_ret pe_bl)))), ?_⟩
    dsimp only [tSeq, tAsg, gName, tOp, tUn, tTest, tB, tAnd, tOr, tNot, tAndV, tOrV, tNotV, tIf, tIfS, tRet, tRetN, tDrop, tNext, tCons, tNil, tCB, tCall, tMenu, tComp, iZip2, iEnum, tNoIf, tTru, tJoin, cxOf_K, tLst, tTup, tSl, tPart, tNoPart, tBM, tBM0, tChain, tC, tFor_eq, gTup, gStar, gLst, gCons, gNil, gSub, iList, iRng1, iRng2, iRng3, iTup, iZip3, tWhile, tRev, tRaise, tCallS, tTry, tAug, tPar, tNever, ipI, List.append_nil]
    walk_at "st"
    refine ⟨_, _, rfl, ⟨_, hA⟩, ⟨_, hB⟩, lp_zip (xs := iL ps) (ys := iL xs) (fun i σ H2 => ∃ (ah : Int) (u v : Option V), σ = [some (.ref a), some (.int hd), some (.ref b), some (.int ah), u, v] ∧ Same H H2 ∧ (keeps ps hd xs ↔ keeps (ps.drop i) ah (xs.drop i))) ?_ ?_ ?_ ?_⟩
    · exact ⟨hd, _, _, rfl, Same.refl _, Iff.rfl⟩
    · rintro i σ H2 ⟨ah, u, v, rfl, sm, hk⟩
      exact ⟨sm.seq hA, sm.seq hB⟩
    · rintro i x y t σ H2 hx hy ⟨ah, u, v, rfl, sm, hk⟩ ht
      rw [List.getElem?_map] at hx hy
      obtain ⟨p, hp, rfl⟩ := Option.map_eq_some_iff.mp hx
      obtain ⟨q, hq, rfl⟩ := Option.map_eq_some_iff.mp hy
      walk_at "st"
      refine ⟨_, _, rfl, SqT.of upd_same, rfl, _, _, rfl, _, _, rfl, rfl, ?_⟩
      walk_at "st"
      rw [dropc hp, dropc hq] at hk
      refine i_if (fun g => ?_) (fun g => ?_)
      · walk_at "st"
        refine k _ _ ⟨fun z => (Bool.noConfusion z), fun z => ?_⟩ (sm.trans (same_upd ht))
        have := (hk.mp z).1
        split at g <;> omega
      · walk_at "st"
        refine ⟨q, _, _, rfl, sm.trans (same_upd ht), hk.trans ⟨fun z => z.2, fun z => ⟨?_, z⟩⟩⟩
        split at g <;> omega
    · rintro σ H2 ⟨ah, u, v, rfl, sm, hk⟩
      walk_at "st"
      refine k _ _ ⟨fun _ => hk.mpr ?_, fun _ => rfl⟩ sm
      simp only [iL, List.length_map]
      exact keeps_end

def spIsStand (K : PySem.W.Frag) : Sp := fun vs H Q _ => ∃ (a b : Addr) (ps xs : List Int) (hd : Int), vs = [.ref a, .int hd, .ref b] ∧ SqL K H a (iL ps) ∧ SqL K H b (iL xs) ∧ isTr ps ∧ ∀ (r : Bool) H', (r = true ↔ stand ps hd xs) → Same H H' → Q (.bl r) H'
theorem ok_is_stand (T : Txt mg) (D : Def K mg "is_stand" s_is_stand) (C_refuse_no_train : Callee P w K mg base "refuse_no_train" 2 (spRefTrain K)) (C_keeps_plays : Callee P w K mg base "keeps_plays" 1 (spKeeps K)) : Callee P w K mg base "is_stand" 3 (spIsStand K) := by
  refine D.ok sc_is_stand bd_is_stand (fun vs H Q E h => ?len) (fun f cdv A outer s H vs Q E hr h => ?body)
  case len => obtain ⟨a, b, ps, xs, hd, rfl, _⟩ := h; rfl
  case body =>
    obtain ⟨a, b, ps, xs, hd, rfl, hA, hB, ht, k⟩ := h
    have hu := hr.units
    refine ⟨_, (pss_cons (ps_expr (pe_callN C_refuse_no_train (hr.mono (by decide)) (by rfl) (pa_cons (pv 0) pa_nil)))
 (pss_one (ps_ret (pe_and (pe_cmpR (op_eqK K hu) (pe_callB (call_lenK K) (by rfl) T.z_len bt_len (pa_cons (pv 2) pa_nil)) (pe_callB (call_lenK K) (by rfl) T.z_len bt_len (pa_cons (pv 0) pa_nil)) (nomark _)) (pe_one (pe_callN C_keeps_plays (hr.mono (by decide)) (by rfl) (pa_cons (pv 0) (pa_cons (pv 1) (pa_cons (pv 2) pa_nil))))))))), ?_⟩
    dsimp only [tSeq, tAsg, gName, tOp, tUn, tTest, tB, tAnd, tOr, tNot, tAndV, tOrV, tNotV, tIf, tIfS, tRet, tRetN, tDrop, tNext, tCons, tNil, tCB, tCall, tMenu, tComp, iZip2, iEnum, tNoIf, tTru, tJoin, cxOf_K, tLst, tTup, tSl, tPart, tNoPart, tBM, tBM0, tChain, tC, tFor_eq, gTup, gStar, gLst, gCons, gNil, gSub, iList, iRng1, iRng2, iRng3, iTup, iZip3, tWhile, tRev, tRaise, tCallS, tTry, tAug, tPar, tNever, ipI, List.append_nil]
    walk_at "st"
    refine ⟨a, ps, rfl, hA, ht, ?_⟩
    walk_at "st"
    refine i_lenI hB ?_
    walk_at "st"
    refine i_lenI hA ?_
    walk_at "st"
    refine i_if (fun g => ?_) (fun g => ?_)
    · walk_at "st"
      exact ⟨a, b, ps, xs, hd, rfl, hA, hB, fun r H' hr' sm => k r H' (hr'.trans ⟨fun z => ⟨by omega, z⟩, fun z => z.2⟩) sm⟩
    · exact k _ _ ⟨fun z => (Bool.noConfusion z), fun z => absurd z.1 (by omega)⟩ (Same.refl _)

def spRefStand (K : PySem.W.Frag) : Sp := fun vs H Q _ => ∃ (a b : Addr) (ps xs : List Int) (hd : Int), vs = [.ref a, .int hd, .ref b] ∧ SqL K H a (iL ps) ∧ SqL K H b (iL xs) ∧ isTr ps ∧ stand ps hd xs ∧ ∀ H', Same H H' → Q .non H'
theorem ok_refuse_no_stand (T : Txt mg) (D : Def K mg "refuse_no_stand" s_refuse_no_stand) (C_is_stand : Callee P w K mg base "is_stand" 3 (spIsStand K)) : Callee P w K mg base "refuse_no_stand" 4 (spRefStand K) := by
  refine D.ok sc_refuse_no_stand bd_refuse_no_stand (fun vs H Q E h => ?len) (fun f cdv A outer s H vs Q E hr h => ?body)
  case len => obtain ⟨a, b, ps, xs, hd, rfl, _⟩ := h; rfl
  case body =>
    obtain ⟨a, b, ps, xs, hd, rfl, hA, hB, ht, hs, k⟩ := h
    refine ⟨_, (pss_one (ps_if (pt_not (pt_truthK K (pe_callN C_is_stand (hr.mono (by decide)) (by rfl) (pa_cons (pv 0) (pa_cons (pv 1) (pa_cons (pv 2) pa_nil))))))
 (pss_one ps_never)
 pss_nil)), ?_⟩
    dsimp only [tSeq, tAsg, gName, tOp, tUn, tTest, tB, tAnd, tOr, tNot, tAndV, tOrV, tNotV, tIf, tIfS, tRet, tRetN, tDrop, tNext, tCons, tNil, tCB, tCall, tMenu, tComp, iZip2, iEnum, tNoIf, tTru, tJoin, cxOf_K, tLst, tTup, tSl, tPart, tNoPart, tBM, tBM0, tChain, tC, tFor_eq, gTup, gStar, gLst, gCons, gNil, gSub, iList, iRng1, iRng2, iRng3, iTup, iZip3, tWhile, tRev, tRaise, tCallS, tTry, tAug, tPar, tNever, ipI, List.append_nil]
    walk_at "st"
    refine ⟨a, b, ps, xs, hd, rfl, hA, hB, ht, fun r H' hr' sm => ?_⟩
    cases hr'.mpr hs
    walk_at "st"
    exact k H' sm

def spDragged : Sp := fun vs H Q _ => ∃ p a x, vs = [.int p, .int a, .int x] ∧ Q (.int (drag p a x)) H
theorem ok_dragged (T : Txt mg) (D : Def K mg "dragged" s_dragged) : Callee P w K mg base "dragged" 1 spDragged := by
  refine D.ok sc_dragged bd_dragged (fun vs H Q E h => ?len) (fun f cdv A outer s H vs Q E hr h => ?body)
  case len => obtain ⟨p, a, x, rfl, _⟩ := h; rfl
  case body =>
    obtain ⟨p, a, x, rfl, k⟩ := h
    unfold drag at k
    refine ⟨_, (pss_cons (ps_if (pt_cmpR op_lt (pv 2) (pe_op op_sub (pv 1) (pv 0)) (nomark _))
 (pss_one (ps_ret (pe_op op_sub (pv 1) (pv 0))))
 pss_nil)
 (pss_cons (ps_if (pt_cmpR op_gt (pv 2) (pe_op op_addP (pv 1) (pv 0)) (nomark _))
 (pss_one (ps_ret (pe_op op_addP (pv 1) (pv 0))))
 pss_nil)
 (pss_one (ps_ret (pv 2))))), ?_⟩
    dsimp only [tSeq, tAsg, gName, tOp, tUn, tTest, tB, tAnd, tOr, tNot, tAndV, tOrV, tNotV, tIf, tIfS, tRet, tRetN, tDrop, tNext, tCons, tNil, tCB, tCall, tMenu, tComp, iZip2, iEnum, tNoIf, tTru, tJoin, cxOf_K, tLst, tTup, tSl, tPart, tNoPart, tBM, tBM0, tChain, tC, tFor_eq, gTup, gStar, gLst, gCons, gNil, gSub, iList, iRng1, iRng2, iRng3, iTup, iZip3, tWhile, tRev, tRaise, tCallS, tTry, tAug, tPar, tNever, ipI, List.append_nil]
    walk_at "st"
    refine i_if (fun h1 => ?_) (fun h1 => ?_)
    · walk_at "st"
      rw [if_pos h1] at k; exact k
    · walk_at "st"
      rw [if_neg h1] at k
      refine i_if (fun h2 => ?_) (fun h2 => ?_)
      · walk_at "st"
        rw [if_pos h2] at k; exact k
      · walk_at "st"
        rw [if_neg h2] at k; exact k

def spAllDr (K : PySem.W.Frag) : Sp := fun vs H Q _ => ∃ (a b : Addr) (ps xs : List Int) (c : Int), vs = [.ref a, .ref b, .int c] ∧ SqL K H a (iL ps) ∧ SqL K H b (iL xs) ∧ ps.length ≤ 12 ∧ (∀ p ∈ ps, 0 ≤ p) ∧ ∀ l H', NewI H H' l (dragAll ps xs c) → Q (.ref l) H'
theorem ok_all_dragged (T : Txt mg) (D : Def K mg "all_dragged" s_all_dragged) (C_dragged : Callee P w K mg base "dragged" 1 spDragged) : Callee P w K mg base "all_dragged" 2 (spAllDr K) := by
  refine D.ok sc_all_dragged bd_all_dragged (fun vs H Q E h => ?len) (fun f cdv A outer s H vs Q E hr h => ?body)
  case len => obtain ⟨a, b, ps, xs, c, rfl, _⟩ := h; rfl
  case body =>
    obtain ⟨a, b, ps, xs, c, rfl, hA, hB, h12, hp0, k⟩ := h
    refine ⟨_, (pss_cons (ps_set (i := 3) sc_all_dragged.nd rfl (Or.inl rfl) (pe_lst pa_nil))
 (pss_cons (ps_set (i := 4) sc_all_dragged.nd rfl (Or.inl rfl) (pv 2))
 (pss_cons (ps_for PassesOwn.never rfl (pi_zip2K K (by rfl) T.z_zip (pa_cons (pv 0) (pa_cons (pv 1) pa_nil))) (pg_tupK K 2 (pgs_cons (pg_name (i := 5) sc_all_dragged.nd rfl (Or.inl rfl)) (pgs_cons (pg_name (i := 6) sc_all_dragged.nd rfl (Or.inl rfl)) pgs_nil)))
 (pss_cons (ps_set (i := 4) sc_all_dragged.nd rfl (Or.inl rfl) (pe_callN C_dragged (hr.mono (by decide)) (by rfl) (pa_cons (pv 5) (pa_cons (pv 4) (pa_cons (pv 6) pa_nil)))))
 (pss_one (ps_expr (pe_bmK K PySem.F.plainAttrs_list PySem.F.slot_list_append PySem.F.type_list_append mt_append (pv 3) (pa_cons (pv 4) pa_nil))))))
 (pss_one (ps_ret (pv 3)))))), ?_⟩
    dsimp only [tSeq, tAsg, gName, tOp, tUn, tTest, tB, tAnd, tOr, tNot, tAndV, tOrV, tNotV, tIf, tIfS, tRet, tRetN, tDrop, tNext, tCons, tNil, tCB, tCall, tMenu, tComp, iZip2, iEnum, tNoIf, tTru, tJoin, cxOf_K, tLst, tTup, tSl, tPart, tNoPart, tBM, tBM0, tChain, tC, tFor_eq, gTup, gStar, gLst, gCons, gNil, gSub, iList, iRng1, iRng2, iRng3, iTup, iZip3, tWhile, tRev, tRaise, tCallS, tTry, tAug, tPar, tNever, ipI, List.append_nil]
    walk_at "st"
    intro l hl
    walk_at "st"
    have s1 : Same H (upd H l (.lst [])) := same_upd hl
    refine ⟨_, _, rfl, ⟨_, s1.seq hA⟩, ⟨_, s1.seq hB⟩, lp_zip (xs := iL ps) (ys := iL xs) (fun i σ H2 => ∃ (ah : Int) (u v : Option V) (dn : List Int), σ = [some (.ref a), some (.ref b), some (.int c), some (.ref l), some (.int ah), u, v] ∧ NewI H H2 l dn ∧ dn.length ≤ 12 ∧ dn.length = i ∧ dragAll ps xs c = dn ++ dragAll (ps.drop i) (xs.drop i) ah) ?_ ?_ ?_ ?_⟩
    · exact ⟨c, _, _, [], rfl, ⟨hl, s1, upd_same⟩, by simp, rfl, rfl⟩
    · rintro i σ H2 ⟨ah, u, v, dn, rfl, N, hl12, hi, hk⟩
      exact ⟨N.sm.seq hA, N.sm.seq hB⟩
    · rintro i x y t σ H2 hx hy ⟨ah, u, v, dn, rfl, N, hl12, hi, hk⟩ ht
      rw [List.getElem?_map] at hx hy
      obtain ⟨p, hp, rfl⟩ := Option.map_eq_some_iff.mp hx
      obtain ⟨q, hq, rfl⟩ := Option.map_eq_some_iff.mp hy
      have hpl : i < ps.length := (List.getElem?_eq_some_iff.mp hp).1
      walk_at "st"
      refine ⟨_, _, rfl, SqT.of upd_same, rfl, _, _, rfl, _, _, rfl, rfl, ?_⟩
      walk_at "st"
      refine ⟨p, ah, q, rfl, ?_⟩
      rw [dropc hp, dropc hq] at hk
      have N2 := N.more (same_upd (o := .tup [.int p, .int q]) ht)
      walk_at "st"
      refine ⟨.inl ⟨rfl, _, SqL.of N2.at_⟩, ?_⟩
      walk_at "st"
      refine i_app N2.at_ (szlt (by simp [iL]; omega)) ?_
      refine ⟨_, _, _, dn ++ [drag p ah q], rfl, N2.app, by simp; omega, by simp; omega, ?_⟩
      rw [hk, dragAll]; simp
    · rintro σ H2 ⟨ah, u, v, dn, rfl, N, hl12, hi, hk⟩
      walk_at "st"
      have e : dragAll ps xs c = dn := by
        rw [hk]
        simp only [iL, List.length_map]
        by_cases h : ps.length ≤ xs.length
        · rw [Nat.min_eq_left h, List.drop_of_length_le (Nat.le_refl _), dragAll_nil, List.append_nil]
        · rw [Nat.min_eq_right (by omega), List.drop_of_length_le (l := xs) (Nat.le_refl _), dragAll_nil2, List.append_nil]
      rw [e] at k
      exact k l H2 N

def spTurned (K : PySem.W.Frag) : Sp := fun vs H Q _ => ∃ (a b : Addr) (ps xs : List Int) (hd c : Int), vs = [.ref a, .int hd, .ref b, .int c] ∧ SqL K H a (iL ps) ∧ SqL K H b (iL xs) ∧ isTr ps ∧ stand ps hd xs ∧ ∀ l H', NewI H H' l (dragAll ps xs c) → Q (.ref l) H'
theorem ok_turned (T : Txt mg) (D : Def K mg "turned" s_turned) (C_refuse_no_stand : Callee P w K mg base "refuse_no_stand" 4 (spRefStand K)) (C_all_dragged : Callee P w K mg base "all_dragged" 2 (spAllDr K)) : Callee P w K mg base "turned" 5 (spTurned K) := by
  refine D.ok sc_turned bd_turned (fun vs H Q E h => ?len) (fun f cdv A outer s H vs Q E hr h => ?body)
  case len => obtain ⟨a, b, ps, xs, hd, c, rfl, _⟩ := h; rfl
  case body =>
    obtain ⟨a, b, ps, xs, hd, c, rfl, hA, hB, ht, hs, k⟩ := h
    refine ⟨_, (pss_cons (ps_expr (pe_callN C_refuse_no_stand (hr.mono (by decide)) (by rfl) (pa_cons (pv 0) (pa_cons (pv 1) (pa_cons (pv 2) pa_nil)))))
 (pss_one (ps_ret (pe_callN C_all_dragged (hr.mono (by decide)) (by rfl) (pa_cons (pv 0) (pa_cons (pv 2) (pa_cons (pv 3) pa_nil))))))), ?_⟩
    dsimp only [tSeq, tAsg, gName, tOp, tUn, tTest, tB, tAnd, tOr, tNot, tAndV, tOrV, tNotV, tIf, tIfS, tRet, tRetN, tDrop, tNext, tCons, tNil, tCB, tCall, tMenu, tComp, iZip2, iEnum, tNoIf, tTru, tJoin, cxOf_K, tLst, tTup, tSl, tPart, tNoPart, tBM, tBM0, tChain, tC, tFor_eq, gTup, gStar, gLst, gCons, gNil, gSub, iList, iRng1, iRng2, iRng3, iTup, iZip3, tWhile, tRev, tRaise, tCallS, tTry, tAug, tPar, tNever, ipI, List.append_nil]
    walk_at "st"
    refine ⟨a, b, ps, xs, hd, rfl, hA, hB, ht, hs, fun H1 sm => ?_⟩
    walk_at "st"
    exact ⟨a, b, ps, xs, c, rfl, sm.seq hA, sm.seq hB, ht.2.1, ht.2.2, fun l H' N => k l H' ⟨sm.free N.fr, sm.trans N.sm, N.at_⟩⟩

--SPLIT
def spMoved (K : PySem.W.Frag) : Sp := fun vs H Q _ => ∃ (a b : Addr) (ps ws : List Int) (h p c : Int), vs = [.ref a, .int h, .ref b, .int p, .int c] ∧ H a = some (.lst (iL ps)) ∧ H b = some (.lst (iL ws)) ∧ ws.length = ps.length ∧ ps.length ≤ 12 ∧ (∀ x ∈ ps, 0 ≤ x) ∧ -1 ≤ p ∧ p < ps.length ∧
  ∀ t lw H' hd tl, Same H H' → H t = none → H lw = none → gAll ps (h :: ws) (p + 1).toNat c = hd :: tl → H' t = some (.tup [.int hd, .ref lw]) → H' lw = some (.lst (iL tl)) → Q (.ref t) H'
theorem ok_moved (T : Txt mg) (D : Def K mg "moved" s_moved) (C_all_dragged : Callee P w K mg base "all_dragged" 2 (spAllDr K)) : Callee P w K mg base "moved" 3 (spMoved K) := by
  refine D.ok sc_moved bd_moved (fun vs H Q E h => ?len) (fun f cdv A outer s H vs Q E hr h => ?body)
  case len => obtain ⟨a, b, ps, ws, h, p, c, rfl, _⟩ := h; rfl
  case body =>
    obtain ⟨a, b, ps, ws, h, p, c, rfl, hA, hB, hwl, hpl, hp0, hp1, hp2, k⟩ := h
    have hu := hr.units
    obtain ⟨m, hm⟩ : ∃ m : Nat, p + 1 = (m : Int) := ⟨(p + 1).toNat, by omega⟩
    have hmt : (p + 1).toNat = m := by omega
    have hm2 : m ≤ ps.length := by omega
    refine ⟨_, (pss_cons (ps_set (i := 5) sc_moved.nd rfl (Or.inl rfl) (pe_op op_addP (pe_lst (pa_cons (pv 1) pa_nil)) (pv 2)))
 (pss_cons (ps_set (i := 6) sc_moved.nd rfl (Or.inl rfl) (pe_op op_addP (pv 3) pe_int))
 (pss_cons (ps_set (i := 7) sc_moved.nd rfl (Or.inl rfl) (pe_revK K (pe_callN C_all_dragged (hr.mono (by decide)) (by rfl) (pa_cons (pe_revK K (pe_slice (sl_listK K) (pv 0) po_none (po_some (pv 6))) (po_some (pe_negK (r := -1) (by decide)))) (pa_cons (pe_revK K (pe_slice (sl_listK K) (pv 5) po_none (po_some (pv 6))) (po_some (pe_negK (r := -1) (by decide)))) (pa_cons (pv 4) pa_nil)))) (po_some (pe_negK (r := -1) (by decide)))))
 (pss_cons (ps_set (i := 8) sc_moved.nd rfl (Or.inl rfl) (pe_callN C_all_dragged (hr.mono (by decide)) (by rfl) (pa_cons (pe_slice (sl_listK K) (pv 0) (po_some (pv 6)) po_none) (pa_cons (pe_slice (sl_listK K) (pv 5) (po_some (pe_op op_addP (pv 6) pe_int)) po_none) (pa_cons (pv 4) pa_nil)))))
 (pss_cons (ps_asg (pe_op op_addP (pe_op op_addP (pv 7) (pe_lst (pa_cons (pv 4) pa_nil))) (pv 8)) (pg_starK K 1 (pgs_cons (pg_name (i := 9) sc_moved.nd rfl (Or.inl rfl)) (pgs_star (pg_name (i := 10) sc_moved.nd rfl (Or.inl rfl)) pgs_nil))))
 (pss_one (ps_ret (pe_tup (pa_cons (pv 9) (pa_cons (pv 10) pa_nil)))))))))), ?_⟩
    dsimp only [tSeq, tAsg, gName, tOp, tUn, tTest, tB, tAnd, tOr, tNot, tAndV, tOrV, tNotV, tIf, tIfS, tRet, tRetN, tDrop, tNext, tCons, tNil, tCB, tCall, tMenu, tComp, iZip2, iEnum, tNoIf, tTru, tJoin, cxOf_K, tLst, tTup, tSl, tPart, tNoPart, tBM, tBM0, tChain, tC, tFor_eq, gTup, gStar, gLst, gCons, gNil, gSub, iList, iRng1, iRng2, iRng3, iTup, iZip3, tWhile, tRev, tRaise, tCallS, tTry, tAug, tPar, tNever, ipI, List.append_nil]
    walk_at "st"
    intro g1 hg1
    walk_at "st"
    refine i_addL (a := g1) (b := b) (xs := [.int h]) (ys := iL ws) upd_same (same_upd hg1 _ _ hB) (szl (by simp [iL]; omega)) (fun lpc hlpc => ?_)
    have s1 : Same H _ := (same_upd (o := .lst [.int h]) hg1).trans (same_upd (o := .lst ([.int h] ++ iL ws)) hlpc)
    have e1 : upd (upd H g1 (.lst [.int h])) lpc (.lst ([.int h] ++ iL ws)) lpc = some (.lst (iL (h :: ws))) := by rw [upd_same]; rfl
    generalize upd (upd H g1 (.lst [.int h])) lpc (.lst ([.int h] ++ iL ws)) = H1 at *
    have hLl : (h :: ws).length = ps.length + 1 := by simp; omega
    generalize h :: ws = L at *
    walk_at "st"
    try rw [hm]
    refine i_slTo (SqL.of (s1 _ _ hA)) (by omega) (fun q1 hq1 => ?_)
    rw [show ((m : Nat) : Int).toNat = m by omega]
    have s2 := same_upd (o := .lst (iL (ps.take m))) hq1
    have e2 : upd H1 q1 (.lst (iL (ps.take m))) q1 = some (.lst (iL (ps.take m))) := upd_same
    generalize upd H1 q1 (.lst (iL (ps.take m))) = H2 at *
    walk_at "st"
    refine i_rev (SqL.of e2) (fun q2 hq2 => ?_)
    have s3 := same_upd (o := .lst (iL (ps.take m).reverse)) hq2
    have e3 : upd H2 q2 (.lst (iL (ps.take m).reverse)) q2 = some (.lst (iL (ps.take m).reverse)) := upd_same
    generalize upd H2 q2 (.lst (iL (ps.take m).reverse)) = H3 at *
    walk_at "st"
    refine i_slTo (SqL.of (s3 _ _ (s2 _ _ e1))) (by omega) (fun q3 hq3 => ?_)
    rw [show ((m : Nat) : Int).toNat = m by omega]
    have s4 := same_upd (o := .lst (iL (L.take m))) hq3
    have e4 : upd H3 q3 (.lst (iL (L.take m))) q3 = some (.lst (iL (L.take m))) := upd_same
    generalize upd H3 q3 (.lst (iL (L.take m))) = H4 at *
    walk_at "st"
    refine i_rev (SqL.of e4) (fun q4 hq4 => ?_)
    have s5 := same_upd (o := .lst (iL (L.take m).reverse)) hq4
    have e5 : upd H4 q4 (.lst (iL (L.take m).reverse)) q4 = some (.lst (iL (L.take m).reverse)) := upd_same
    generalize upd H4 q4 (.lst (iL (L.take m).reverse)) = H5 at *
    walk_at "st"
    refine ⟨q2, q4, _, _, c, rfl, SqL.of (s5 _ _ (s4 _ _ e3)), SqL.of e5, by simp; omega, fun x hx => hp0 x (List.mem_of_mem_take (List.mem_reverse.mp hx)), fun q5 H6 N6 => ?_⟩
    walk_at "st"
    have hAl := gA_len (c := c) hLl hm2
    rw [List.length_reverse] at hAl
    unfold gAll at k
    rw [hmt] at k
    generalize dragAll (ps.take m).reverse (L.take m).reverse c = Ah at *
    refine i_rev (SqL.of N6.at_) (fun q6 hq6 => ?_)
    have s7 := same_upd (o := .lst (iL Ah.reverse)) hq6
    have e7 : upd H6 q6 (.lst (iL Ah.reverse)) q6 = some (.lst (iL Ah.reverse)) := upd_same
    generalize upd H6 q6 (.lst (iL Ah.reverse)) = H7 at *
    have S7 := s2.trans (s3.trans (s4.trans (s5.trans (N6.sm.trans s7))))
    clear s2 s3 s4 s5 N6 s7 e2 e3 e4 e5
    walk_at "st"
    refine i_slFrom (SqL.of (S7 _ _ (s1 _ _ hA))) (by omega) (fun q7 hq7 => ?_)
    rw [show ((m : Nat) : Int).toNat = m by omega]
    have s8 := same_upd (o := .lst (iL (ps.drop m))) hq7
    have e8 : upd H7 q7 (.lst (iL (ps.drop m))) q7 = some (.lst (iL (ps.drop m))) := upd_same
    generalize upd H7 q7 (.lst (iL (ps.drop m))) = H8 at *
    walk_at "st"
    refine i_slFrom (SqL.of (s8 _ _ (S7 _ _ e1))) (by omega) (fun q8 hq8 => ?_)
    rw [show (((m : Nat) : Int) + 1).toNat = m + 1 by omega]
    have s9 := same_upd (o := .lst (iL (L.drop (m + 1)))) hq8
    have e9 : upd H8 q8 (.lst (iL (L.drop (m + 1)))) q8 = some (.lst (iL (L.drop (m + 1)))) := upd_same
    generalize upd H8 q8 (.lst (iL (L.drop (m + 1)))) = H9 at *
    walk_at "st"
    refine ⟨q7, q8, _, _, c, rfl, SqL.of (s9 _ _ e8), SqL.of e9, by simp; omega, fun x hx => hp0 x (List.mem_of_mem_drop hx), fun q9 H10 N10 => ?_⟩
    have hBl := gB_len (c := c) hLl hm2
    generalize dragAll (ps.drop m) (L.drop (m + 1)) c = Be at *
    have S10 := s8.trans (s9.trans N10.sm)
    have e10 := N10.at_
    have f10 := S10 _ _ e7
    have SS := s1.trans (S7.trans S10)
    clear s8 s9 N10 e8 e9 S7 S10 s1
    walk_at "st"
    intro q10 hq10
    walk_at "st"
    refine i_addL (a := q6) (b := q10) (xs := iL Ah.reverse) (ys := [.int c]) (same_upd hq10 _ _ f10) upd_same (szl (by simp [iL]; omega)) (fun q11 hq11 => ?_)
    have s11 := (same_upd (o := .lst [.int c]) hq10).trans (same_upd (o := .lst (iL Ah.reverse ++ [.int c])) hq11)
    have e11 : upd (upd H10 q10 (.lst [.int c])) q11 (.lst (iL Ah.reverse ++ [.int c])) q11 = some (.lst (iL (Ah.reverse ++ [c]))) := by rw [upd_same]; simp [iL]
    generalize upd (upd H10 q10 (.lst [.int c])) q11 (.lst (iL Ah.reverse ++ [.int c])) = H11 at *
    walk_at "st"
    refine i_addL (a := q11) (b := q9) (xs := iL (Ah.reverse ++ [c])) (ys := iL Be) e11 (s11 _ _ e10) (szl (by simp [iL]; omega)) (fun q12 hq12 => ?_)
    have s12 := SS.trans (s11.trans (same_upd (o := .lst (iL (Ah.reverse ++ [c]) ++ iL Be)) hq12))
    have e12 : upd H11 q12 (.lst (iL (Ah.reverse ++ [c]) ++ iL Be)) q12 = some (.lst (iL (Ah.reverse ++ c :: Be))) := by rw [upd_same]; simp [iL]
    generalize upd H11 q12 (.lst (iL (Ah.reverse ++ [c]) ++ iL Be)) = H12 at *
    clear SS s11 e11 e10 f10
    obtain ⟨hd, tl, hG⟩ : ∃ hd tl, Ah.reverse ++ c :: Be = hd :: tl := by
      cases hq : Ah.reverse ++ c :: Be with
      | nil => have := congrArg List.length hq; simp at this
      | cons hd tl => exact ⟨hd, tl, rfl⟩
    rw [hG] at e12
    walk_at "st"
    refine ⟨_, _, rfl, SqL.of e12, by simp [iL], fun lw hlw => ⟨_, _, rfl, _, _, rfl, rfl, ?_⟩⟩
    have s13 := same_upd (o := .lst (iL tl)) hlw
    have e13 : upd H12 lw (.lst (iL tl)) lw = some (.lst (iL tl)) := upd_same
    walk_at "st"
    intro t ht
    have s14 := same_upd (o := .tup [.int hd, .ref lw]) ht
    exact k t lw _ hd tl (s12.trans (s13.trans s14)) ((s12.trans s13).free ht) (s12.free hlw) hG upd_same (s14 _ _ e13)

--SPLIT
def spRefPiece (K : PySem.W.Frag) : Sp := fun vs H Q _ => ∃ (a : Addr) (ps : List Int) (p : Int), vs = [.ref a, .int p] ∧ SqL K H a (iL ps) ∧ -1 ≤ p ∧ p < ps.length ∧ Q .non H
theorem ok_refuse_no_piece (T : Txt mg) (D : Def K mg "refuse_no_piece" s_refuse_no_piece) : Callee P w K mg base "refuse_no_piece" 1 (spRefPiece K) := by
  refine D.ok sc_refuse_no_piece bd_refuse_no_piece (fun vs H Q E h => ?len) (fun f cdv A outer s H vs Q E hr h => ?body)
  case len => obtain ⟨a, ps, p, rfl, _⟩ := h; rfl
  case body =>
    obtain ⟨a, ps, p, rfl, hA, h1, h2, k⟩ := h
    have hu := hr.units
    refine ⟨_, (pss_one (ps_if (pt_not (pt_chain op_le op_lt (pe_negK (r := -1) (by decide)) (pv 1) (pe_callB (call_lenK K) (by rfl) T.z_len bt_len (pa_cons (pv 0) pa_nil))))
 (pss_one ps_never)
 pss_nil)), ?_⟩
    dsimp only [tSeq, tAsg, gName, tOp, tUn, tTest, tB, tAnd, tOr, tNot, tAndV, tOrV, tNotV, tIf, tIfS, tRet, tRetN, tDrop, tNext, tCons, tNil, tCB, tCall, tMenu, tComp, iZip2, iEnum, tNoIf, tTru, tJoin, cxOf_K, tLst, tTup, tSl, tPart, tNoPart, tBM, tBM0, tChain, tC, tFor_eq, gTup, gStar, gLst, gCons, gNil, gSub, iList, iRng1, iRng2, iRng3, iTup, iZip3, tWhile, tRev, tRaise, tCallS, tTry, tAug, tPar, tNever, ipI, List.append_nil]
    walk_at "st"
    refine i_if (fun g1 => ?_) (fun g1 => absurd h1 g1)
    walk_at "st"
    refine i_lenI hA ?_
    walk_at "st"
    refine i_ifn (fun g2 => absurd h2 g2) (fun g2 => ?_)
    walk_at "st"
    exact k

/-- a stand whose list of wheels is new -/
def StNew (H H' : Hp) (t : Addr) (L : List Int) : Prop := ∃ lw h ws, L = h :: ws ∧ H' t = some (.tup [.int h, .ref lw]) ∧ H' lw = some (.lst (iL ws)) ∧ H lw = none
theorem StNew.at {H H' : Hp} {t : Addr} {L : List Int} (h : StNew H H' t L) : StAt H' t L := by
  obtain ⟨lw, x, ws, e, a, b, c⟩ := h
  exact ⟨lw, x, ws, e, a, b⟩
def okGr (n : Nat) (gs : List (Int × Int)) : Prop := ∀ g ∈ gs, -1 ≤ g.1 ∧ g.1 < n
def spGrabs : Sp := fun vs H Q _ => ∃ (a b r : Addr) (ps ws : List Int) (h : Int) (ts : List Addr) (gs : List (Int × Int)), vs = [.ref a, .int h, .ref b, .ref r] ∧ H a = some (.lst (iL ps)) ∧ H b = some (.lst (iL ws)) ∧ H r = some (.lst (ts.map V.ref)) ∧ MsAt H ts gs ∧ gs.length ≤ 1000 ∧ isTr ps ∧ stand ps h ws ∧ okGr ps.length gs ∧
  ∀ l us H', Same H H' → H l = none → H' l = some (.lst (us.map V.ref)) → Paired (StNew H H') us (gRun ps (h :: ws) gs) → Q (.ref l) H'
theorem ok_grabs_of (T : Txt mg) (D : Def K mg "grabs_of" s_grabs_of) (C_refuse_no_stand : Callee P w K mg base "refuse_no_stand" 4 (spRefStand K)) (C_refuse_no_piece : Callee P w K mg base "refuse_no_piece" 1 (spRefPiece K)) (C_moved : Callee P w K mg base "moved" 3 (spMoved K)) : Callee P w K mg base "grabs_of" 5 spGrabs := by
  refine D.ok sc_grabs_of bd_grabs_of (fun vs H Q E h => ?len) (fun f cdv A outer s H vs Q E hr h => ?body)
  case len => obtain ⟨a, b, r, ps, ws, h, ts, gs, rfl, _⟩ := h; rfl
  case body =>
    obtain ⟨a, b, r, ps, ws, h, ts, gs, rfl, hA, hB, hR, hM, hgl, hT, hS, hok, k⟩ := h
    have hu := hr.units
    have htl : ts.length = gs.length := hM.length
    refine ⟨_, (pss_cons (ps_expr (pe_callN C_refuse_no_stand (hr.mono (by decide)) (by rfl) (pa_cons (pv 0) (pa_cons (pv 1) (pa_cons (pv 2) pa_nil)))))
 (pss_cons (ps_for PassesOwn.never rfl (pi_listK K (pv 3)) (pg_tupK K 2 (pgs_cons (pg_name (i := 4) sc_grabs_of.nd rfl (Or.inl rfl)) (pgs_cons (pg_name (i := 5) sc_grabs_of.nd rfl (Or.inl rfl)) pgs_nil)))
 (pss_one (ps_expr (pe_callN C_refuse_no_piece (hr.mono (by decide)) (by rfl) (pa_cons (pv 0) (pa_cons (pv 4) pa_nil))))))
 (pss_cons (ps_set (i := 6) sc_grabs_of.nd rfl (Or.inl rfl) (pe_lst pa_nil))
 (pss_cons (ps_for PassesOwn.never rfl (pi_listK K (pv 3)) (pg_tupK K 2 (pgs_cons (pg_name (i := 4) sc_grabs_of.nd rfl (Or.inl rfl)) (pgs_cons (pg_name (i := 5) sc_grabs_of.nd rfl (Or.inl rfl)) pgs_nil)))
 (pss_cons (ps_asg (pe_callN C_moved (hr.mono (by decide)) (by rfl) (pa_cons (pv 0) (pa_cons (pv 1) (pa_cons (pv 2) (pa_cons (pv 4) (pa_cons (pv 5) pa_nil)))))) (pg_tupK K 2 (pgs_cons (pg_name (i := 1) sc_grabs_of.nd rfl (Or.inl rfl)) (pgs_cons (pg_name (i := 2) sc_grabs_of.nd rfl (Or.inl rfl)) pgs_nil))))
 (pss_one (ps_expr (pe_bmK K PySem.F.plainAttrs_list PySem.F.slot_list_append PySem.F.type_list_append mt_append (pv 6) (pa_cons (pe_tup (pa_cons (pv 1) (pa_cons (pv 2) pa_nil))) pa_nil))))))
 (pss_one (ps_ret (pv 6))))))), ?_⟩
    dsimp only [tSeq, tAsg, gName, tOp, tUn, tTest, tB, tAnd, tOr, tNot, tAndV, tOrV, tNotV, tIf, tIfS, tRet, tRetN, tDrop, tNext, tCons, tNil, tCB, tCall, tMenu, tComp, iZip2, iEnum, tNoIf, tTru, tJoin, cxOf_K, tLst, tTup, tSl, tPart, tNoPart, tBM, tBM0, tChain, tC, tFor_eq, gTup, gStar, gLst, gCons, gNil, gSub, iList, iRng1, iRng2, iRng3, iTup, iZip3, tWhile, tRev, tRaise, tCallS, tTry, tAug, tPar, tNever, ipI, List.append_nil]
    walk_at "st"
    refine ⟨a, b, ps, ws, h, rfl, SqL.of hA, SqL.of hB, hT, hS, fun H1 s1 => ?_⟩
    walk_at "st"
    refine ⟨⟨_, SqL.of (s1 _ _ hR)⟩, lp_list (xs := ts.map V.ref) (fun i σ H2 => ∃ u4 u5 : Option V, σ = [some (.ref a), some (.int h), some (.ref b), some (.ref r), u4, u5, none] ∧ H1 = H2) ?_ ?_ ?_ ?_⟩
    · exact ⟨_, _, rfl, rfl⟩
    · rintro i σ H2 _ ⟨u4, u5, rfl, rfl⟩
      exact SqL.of (s1 _ _ hR)
    · rintro i y σ H2 hy ⟨u4, u5, rfl, rfl⟩
      rw [List.getElem?_map] at hy
      obtain ⟨t, hti, rfl⟩ := Option.map_eq_some_iff.mp hy
      obtain ⟨g, hgi, hTg⟩ := paired_getL hM hti
      have hg := hok g (List.mem_of_getElem? hgi)
      walk_at "st"
      refine ⟨_, _, rfl, SqT.of (s1 _ _ hTg), rfl, _, _, rfl, _, _, rfl, rfl, ?_⟩
      walk_at "st"
      refine ⟨a, ps, g.1, rfl, SqL.of (s1 _ _ hA), hg.1, hg.2, ?_⟩
      exact ⟨_, _, rfl, rfl⟩
    rintro σ H2 ⟨u4, u5, rfl, rfl⟩
    have hp12 := hT.2.1
    walk_at "st"
    intro l hl
    have s2 : Same H _ := s1.trans (same_upd (o := .lst []) hl)
    have e2 : upd H1 l (.lst []) l = some (.lst (([] : List Addr).map V.ref)) := upd_same
    have fl : H l = none := s1.free hl
    generalize upd H1 l (.lst []) = H2 at *
    walk_at "st"
    have nrl : r ≠ l := ne_of_none hR fl
    refine ⟨⟨_, SqL.of (s2 _ _ hR)⟩, lp_list (xs := ts.map V.ref) (fun i σ H3 => ∃ (u4 u5 : Option V) (hc : Int) (bc : Addr) (wc : List Int) (us : List Addr), σ = [some (.ref a), some (.int hc), some (.ref bc), some (.ref r), u4, u5, some (.ref l)] ∧ Same H H3 ∧ H3 l = some (.lst (us.map V.ref)) ∧ us.length = i ∧ bc ≠ l ∧ H3 bc = some (.lst (iL wc)) ∧ hc :: wc = gEnd ps (h :: ws) (gs.take i) ∧ Paired (StNew H2 H3) us (gRun ps (h :: ws) (gs.take i)) ∧ ∀ b o, H2 b = some o → b ≠ l → H3 b = some o) ?_ ?_ ?_ ?_⟩
    · exact ⟨_, _, h, b, ws, [], rfl, s2, e2, rfl, ne_of_none hB fl, s2 _ _ hB, rfl, .nil, fun b o e _ => e⟩
    · rintro i σ H3 _ ⟨u4, u5, hc, bc, wc, us, rfl, s3, _⟩
      exact SqL.of (s3 _ _ hR)
    · rintro i y σ H3 hy ⟨u4, u5, hc, bc, wc, us, rfl, s3, e3, hul, hbl, hbc, hE, hP, kp⟩
      rw [List.getElem?_map] at hy
      obtain ⟨t, hti, rfl⟩ := Option.map_eq_some_iff.mp hy
      obtain ⟨g, hgi, hTg⟩ := paired_getL hM hti
      have hil : i < ts.length := (List.getElem?_eq_some_iff.mp hti).1
      have hg := hok g (List.mem_of_getElem? hgi)
      have hEl : (hc :: wc).length = ps.length + 1 := by
        rw [hE]
        exact gEnd_len (by simp [hS.1]) fun g' hg' => hok g' (List.mem_of_mem_take hg')
      walk_at "st"
      refine ⟨_, _, rfl, SqT.of (s3 _ _ hTg), rfl, _, _, rfl, _, _, rfl, rfl, ?_⟩
      walk_at "st"
      refine ⟨a, bc, ps, wc, hc, g.1, g.2, rfl, s3 _ _ hA, hbc, by simpa using hEl, hp12, hT.2.2, hg.1, hg.2, fun t2 lw H4 hd tl s4 ft flw hG ht2 hlw => ?_⟩
      walk_at "st"
      refine ⟨_, _, rfl, SqT.of ht2, rfl, _, _, rfl, _, _, rfl, rfl, ?_⟩
      walk_at "st"
      refine ⟨.inl ⟨rfl, _, SqL.of (s4 _ _ e3)⟩, ?_⟩
      walk_at "st"
      intro t5 ht5
      have s5 := same_upd (o := .tup [.int hd, .ref lw]) ht5
      have e5 : upd H4 t5 (.tup [.int hd, .ref lw]) t5 = some (.tup [.int hd, .ref lw]) := upd_same
      generalize upd H4 t5 (.tup [.int hd, .ref lw]) = H5 at *
      have e6 := s5 _ _ (s4 _ _ e3)
      walk_at "st"
      refine i_app e6 (szlt (by simp; omega)) ?_
      have nlw : lw ≠ l := fun z => by rw [z, e3] at flw; cases flw
      have ntl : t5 ≠ l := fun z => by rw [z, e6] at e5; cases e5
      have up : ∀ {b : Addr} {o : HO}, H5 b = some o → b ≠ l → upd H5 l (.lst (us.map V.ref ++ [V.ref t5])) b = some o := fun e n => by rw [upd_ne n]; exact e
      have f2 : H2 lw = none := by
        cases hq : H2 lw with
        | none => rfl
        | some o => rw [kp _ _ hq nlw] at flw; cases flw
      have hE2 : hd :: tl = gEnd ps (h :: ws) (gs.take (i + 1)) := by
        rw [take_snoc_get hgi, gEnd_app, ← hE, ← hG]; rfl
      refine ⟨_, _, hd, lw, tl, us ++ [t5], rfl, fun b o e => up (s5 _ _ (s4 _ _ (s3 b o e))) (ne_of_none e fl), by rw [upd_same]; simp, by simp; omega, nlw, up (s5 _ _ hlw) nlw, hE2, ?_, fun b o e n => up (s5 _ _ (s4 _ _ (kp b o e n))) n⟩
      rw [take_snoc_get hgi, gRun_app, ← hE]
      refine Paired.snoc (Paired.mapP hP fun u L hu2 => ?_) ⟨lw, hd, tl, hG, up e5 ntl, up (s5 _ _ hlw) nlw, f2⟩
      obtain ⟨lw', x', ws', q1, q2, q3, q4⟩ := hu2
      refine ⟨lw', x', ws', q1, up (s5 _ _ (s4 _ _ q2)) (fun z => by rw [z, e3] at q2; cases q2), up (s5 _ _ (s4 _ _ q3)) (fun z => ?_), q4⟩
      rw [z, e2] at q4
      cases q4
    · rintro σ H3 ⟨u4, u5, hc, bc, wc, us, rfl, s3, e3, hul, hbl, hbc, hE, hP, kp⟩
      rw [List.take_of_length_le (by simp; omega)] at hP
      walk_at "st"
      refine k l us H3 s3 fl e3 (Paired.mapP hP fun u L hu2 => ?_)
      obtain ⟨lw', x', ws', q1, q2, q3, q4⟩ := hu2
      exact ⟨lw', x', ws', q1, q2, q3, s2.free q4⟩

def spGrabbed : Sp := fun vs H Q _ => ∃ (a b : Addr) (ps ws : List Int) (h p c : Int), vs = [.ref a, .int h, .ref b, .int p, .int c] ∧ H a = some (.lst (iL ps)) ∧ H b = some (.lst (iL ws)) ∧ isTr ps ∧ stand ps h ws ∧ -1 ≤ p ∧ p < ps.length ∧ ∀ t H', Same H H' → StNew H H' t (gAll ps (h :: ws) (p + 1).toNat c) → Q (.ref t) H'
theorem ok_grabbed (T : Txt mg) (D : Def K mg "grabbed" s_grabbed) (C_grabs_of : Callee P w K mg base "grabs_of" 5 spGrabs) : Callee P w K mg base "grabbed" 6 spGrabbed := by
  refine D.ok sc_grabbed bd_grabbed (fun vs H Q E h => ?len) (fun f cdv A outer s H vs Q E hr h => ?body)
  case len => obtain ⟨a, b, ps, ws, h, p, c, rfl, _⟩ := h; rfl
  case body =>
    obtain ⟨a, b, ps, ws, h, p, c, rfl, hA, hB, hT, hS, h1, h2, k⟩ := h
    have hu := hr.units
    refine ⟨_, (pss_one (ps_ret (pe_ix (ix_K K) (pe_callN C_grabs_of (hr.mono (by decide)) (by rfl) (pa_cons (pv 0) (pa_cons (pv 1) (pa_cons (pv 2) (pa_cons (pe_lst (pa_cons (pe_tup (pa_cons (pv 3) (pa_cons (pv 4) pa_nil))) pa_nil)) pa_nil))))) pe_int (by exact fun _ _ => rfl)))), ?_⟩
    dsimp only [tSeq, tAsg, gName, tOp, tUn, tTest, tB, tAnd, tOr, tNot, tAndV, tOrV, tNotV, tIf, tIfS, tRet, tRetN, tDrop, tNext, tCons, tNil, tCB, tCall, tMenu, tComp, iZip2, iEnum, tNoIf, tTru, tJoin, cxOf_K, tLst, tTup, tSl, tPart, tNoPart, tBM, tBM0, tChain, tC, tFor_eq, gTup, gStar, gLst, gCons, gNil, gSub, iList, iRng1, iRng2, iRng3, iTup, iZip3, tWhile, tRev, tRaise, tCallS, tTry, tAug, tPar, tNever, ipI, List.append_nil]
    walk_at "st"
    intro t1 ht1
    walk_at "st"
    intro l1 hl1
    have s1 : Same H _ := (same_upd (o := .tup [.int p, .int c]) ht1).trans (same_upd (o := .lst [.ref t1]) hl1)
    have e1 : upd (upd H t1 (.tup [.int p, .int c])) l1 (.lst [.ref t1]) l1 = some (.lst ([t1].map V.ref)) := upd_same
    have f1 : upd (upd H t1 (.tup [.int p, .int c])) l1 (.lst [.ref t1]) t1 = some (.tup [.int p, .int c]) := same_upd hl1 _ _ upd_same
    generalize upd (upd H t1 (.tup [.int p, .int c])) l1 (.lst [.ref t1]) = H1 at *
    have hiff : okGr ps.length [(p, c)] ↔ -1 ≤ p ∧ p < ps.length := ⟨fun z => z (p, c) (by simp), fun z g hg => by simp at hg; subst hg; exact z⟩
    walk_at "st"
    refine ⟨a, b, l1, ps, ws, h, [t1], [(p, c)], rfl, s1 _ _ hA, s1 _ _ hB, e1, .cons f1 .nil, by simp, hT, hS, hiff.mpr ⟨h1, h2⟩, fun l us H2 s2 fl e2 hP => ?_⟩
    cases hP with
    | @cons u L us' Ls' hu2 hP2 =>
      cases hP2
      walk_at "st"
      refine i_ixN (SqL.of e2) (i := 0) (by decide) (v := .ref u) rfl ?_
      refine k u H2 (s1.trans s2) ?_
      obtain ⟨lw, x', ws', q1, q2, q3, q4⟩ := hu2
      exact ⟨lw, x', ws', q1, q2, q3, s1.free q4⟩

--SPLIT
def spTrain (K : PySem.W.Frag) : Sp := fun vs H Q _ => ∃ (a : Addr) (ns : List Int), vs = [.ref a] ∧ SqL K H a (iL ns) ∧
  ∀ t lp lw ps ws hd H', H t = none → NewI H H' lp ps → NewI H H' lw ws → lp ≠ lw → H' t = some (.tup [.ref lp, .int hd, .ref lw]) → isTr ps → stand ps hd ws → Q (.ref t) H'
theorem ok_law_train (T : Txt mg) (D : Def K mg "_law_train" s_law_train) (C_law_draws : Callee P w K mg base "_law_draws" 1 spDraws) (C_law_cell_at : Callee P w K mg base "_law_cell_at" 1 (spCellAt K)) : Callee P w K mg base "_law_train" 2 (spTrain K) := by
  refine D.ok sc_law_train bd_law_train (fun vs H Q E h => ?len) (fun f cdv A outer s H vs Q E hr h => ?body)
  case len => obtain ⟨a, ns, rfl, _⟩ := h; rfl
  case body =>
    obtain ⟨a, ns, rfl, hS, k⟩ := h
    refine ⟨_, (pss_cons (ps_set (i := 1) sc_law_train.nd rfl (Or.inl rfl) (pe_callN C_law_draws (hr.mono (by decide)) (by rfl) (pa_cons (pe_callN C_law_cell_at (hr.mono (by decide)) (by rfl) (pa_cons (pv 0) (pa_cons pe_int pa_nil))) (pa_cons pe_int (pa_cons pe_int pa_nil)))))
 (pss_cons (ps_set (i := 2) sc_law_train.nd rfl (Or.inl rfl) (pe_menu (pa_cons (pe_op op_addP pe_int (pe_op op_mod (pe_ix (ix_K K) (pv 1) pe_int (by exact fun _ _ => rfl)) pe_int)) (pa_cons (pe_op op_addP pe_int (pe_op op_mod (pe_ix (ix_K K) (pv 1) pe_int (by exact fun _ _ => rfl)) pe_int)) (pa_cons pe_int pa_nil))) (pe_op op_mod (pe_ix (ix_K K) (pv 1) pe_int (by exact fun _ _ => rfl)) pe_int) (by exact fun _ _ => rfl)))
 (pss_cons (ps_set (i := 3) sc_law_train.nd rfl (Or.inl rfl) (pe_menu (pa_cons pe_int (pa_cons pe_int (pa_cons (pe_powK (r := 100000000000000000000) (by decide)) (pa_cons pe_int pa_nil)))) (pe_op op_mod (pe_ix (ix_K K) (pv 1) pe_int (by exact fun _ _ => rfl)) pe_int) (by exact fun _ _ => rfl)))
 (pss_cons (ps_set (i := 4) sc_law_train.nd rfl (Or.inl rfl) (pe_callN C_law_draws (hr.mono (by decide)) (by rfl) (pa_cons (pe_callN C_law_cell_at (hr.mono (by decide)) (by rfl) (pa_cons (pv 0) (pa_cons pe_int pa_nil))) (pa_cons pe_int (pa_cons (pe_powK (r := 1000000000) (by decide)) pa_nil)))))
 (pss_cons (ps_set (i := 5) sc_law_train.nd rfl (Or.inl rfl) (pe_lst pa_nil))
 (pss_cons (ps_set (i := 6) sc_law_train.nd rfl (Or.inl rfl) (pe_lst pa_nil))
 (pss_cons (ps_set (i := 7) sc_law_train.nd rfl (Or.inl rfl) (pe_op op_mulP (pe_op op_sub (pe_ix (ix_K K) (pv 1) pe_int (by exact fun _ _ => rfl)) pe_int) (pe_menu (pa_cons pe_int (pa_cons pe_int (pa_cons (pe_powK (r := 1000000000000000000000000) (by decide)) pa_nil))) (pe_op op_mod (pe_ix (ix_K K) (pv 1) pe_int (by exact fun _ _ => rfl)) pe_int) (by exact fun _ _ => rfl))))
 (pss_cons (ps_set (i := 8) sc_law_train.nd rfl (Or.inl rfl) (pv 7))
 (pss_cons (ps_for PassesOwn.never rfl (pi_range1 (by rfl) T.z_range (pa_cons (pv 2) pa_nil)) (pg_name (i := 9) sc_law_train.nd rfl (Or.inl rfl))
 (pss_cons (ps_set (i := 10) sc_law_train.nd rfl (Or.inl rfl) (pe_op op_mod (pe_op op_mulP (pe_ix (ix_K K) (pv 4) (pv 9) (by exact fun _ _ => rfl)) (pe_op op_addP (pe_powK (r := 1000000000000) (by decide)) pe_int)) (pe_op op_addP (pv 3) pe_int)))
 (pss_join (ps_if (pt_cmpR op_gt (pe_op op_mod (pe_ix (ix_K K) (pv 4) (pv 9) (by exact fun _ _ => rfl)) pe_int) pe_int (nomark _))
 (pss_one (ps_set (i := 10) sc_law_train.nd rfl (Or.inl rfl) (pe_op op_mod (pe_ix (ix_K K) (pv 4) (pv 9) (by exact fun _ _ => rfl)) (pe_op op_addP (pv 3) pe_int))))
 pss_nil)
 (pss_cons (ps_set (i := 11) sc_law_train.nd rfl (Or.inl rfl) (pe_menu (pa_cons (pe_op op_sub pe_int (pv 10)) (pa_cons (pv 10) (pa_cons (pe_op op_sub (pe_op op_mod (pe_op op_mulP (pe_ix (ix_K K) (pv 4) (pe_op op_addP pe_int (pv 9)) (by exact fun _ _ => rfl)) (pe_op op_addP (pe_powK (r := 1000000000000) (by decide)) pe_int)) (pe_op op_addP (pe_op op_mulP pe_int (pv 10)) pe_int)) (pv 10)) pa_nil))) (pe_op op_mod (pe_ix (ix_K K) (pv 4) (pe_op op_addP pe_int (pv 9)) (by exact fun _ _ => rfl)) pe_int) (by exact fun _ _ => rfl)))
 (pss_cons (ps_expr (pe_bmK K PySem.F.plainAttrs_list PySem.F.slot_list_append PySem.F.type_list_append mt_append (pv 5) (pa_cons (pv 10) pa_nil)))
 (pss_cons (ps_set (i := 8) sc_law_train.nd rfl (Or.inl rfl) (pe_op op_addP (pv 8) (pv 11)))
 (pss_one (ps_expr (pe_bmK K PySem.F.plainAttrs_list PySem.F.slot_list_append PySem.F.type_list_append mt_append (pv 6) (pa_cons (pv 8) pa_nil))))))))))
 (pss_one (ps_ret (pe_tup (pa_cons (pv 5) (pa_cons (pv 7) (pa_cons (pv 6) pa_nil))))))))))))))), ?_⟩
    dsimp only [tSeq, tAsg, gName, tOp, tUn, tTest, tB, tAnd, tOr, tNot, tAndV, tOrV, tNotV, tIf, tIfS, tRet, tRetN, tDrop, tNext, tCons, tNil, tCB, tCall, tMenu, tComp, iZip2, iEnum, tNoIf, tTru, tJoin, cxOf_K, tLst, tTup, tSl, tPart, tNoPart, tBM, tBM0, tChain, tC, tFor_eq, gTup, gStar, gLst, gCons, gNil, gSub, iList, iRng1, iRng2, iRng3, iTup, iZip3, tWhile, tRev, tRaise, tCallS, tTry, tAug, tPar, tNever, ipI, List.append_nil]
    walk_at "st"
    refine ⟨a, ns, 0, rfl, hS, by decide, fun c0 => ?_⟩
    walk_at "st"
    refine ⟨c0, 6, 1000, rfl, by decide, by decide, by decide, by decide, fun lh H1 hs N1 l1 b1 => ?_⟩
    have q1 := SqL.of (K := K) N1.at_
    walk_at "st"
    refine i_ixL q1 (by omega) (by omega) (fun v0 _ m0 => ?_)
    walk_at "st"
    refine i_ixL q1 (by omega) (by omega) (fun v0' _ m0' => ?_)
    walk_at "st"
    refine i_ixL q1 (by omega) (by omega) (fun v1 _ m1 => ?_)
    walk_at "st"
    have e1 := Int.emod_nonneg v0 (show (12 : Int) ≠ 0 by decide)
    have e2 := Int.emod_lt_of_pos v0 (show (0 : Int) < 12 by decide)
    have e3 := Int.emod_nonneg v0' (show (4 : Int) ≠ 0 by decide)
    have e4 := Int.emod_lt_of_pos v0' (show (0 : Int) < 4 by decide)
    refine i_menu3 (Int.emod_nonneg _ (by decide)) (Int.emod_lt_of_pos _ (by decide)) (fun many hm => ?_)
    have hmany : 1 ≤ many ∧ many ≤ 12 := by omega
    clear hm e1 e2 e3 e4
    walk_at "st"
    refine i_ixL q1 (by omega) (by omega) (fun v2 _ m2 => ?_)
    walk_at "st"
    refine i_menu4 (Int.emod_nonneg _ (by decide)) (Int.emod_lt_of_pos _ (by decide)) (fun far hf => ?_)
    have hfar : 0 ≤ far := by omega
    clear hf
    walk_at "st"
    refine ⟨a, ns, 1, rfl, N1.sm.seq hS, by decide, fun c1 => ?_⟩
    walk_at "st"
    refine ⟨c1, 36, 1000000000, rfl, by decide, by decide, by decide, by decide, fun lq H2 pk N2 l2 b2 => ?_⟩
    have q2 := SqL.of (K := K) N2.at_
    have q1' := N2.sm.seq q1
    walk_at "st"
    intro lp hp
    walk_at "st"
    intro lw hw
    walk_at "st"
    have s3 : Same H2 (upd (upd H2 lp (.lst [])) lw (.lst [])) := (same_upd hp).trans (same_upd hw)
    refine i_ixL (s3.seq q1') (by omega) (by omega) (fun v3 _ m3 => ?_)
    have hb3 := b1 _ m3
    walk_at "st"
    refine i_ixL (s3.seq q1') (by omega) (by omega) (fun v4 _ m4 => ?_)
    walk_at "st"
    refine i_menu3 (Int.emod_nonneg _ (by decide)) (Int.emod_lt_of_pos _ (by decide)) (fun sc _ => ?_)
    refine i_mulI (cmul_l (by omega) (by omega)) ?_
    generalize (v3 - 500) * sc = hd
    walk_at "st"
    have hne : lp ≠ lw := ne_of_none upd_same hw
    have hpf : H lp = none := (N1.sm.trans N2.sm).free hp
    have hwf : H lw = none := (N1.sm.trans N2.sm).free ((same_upd hp).free hw)
    refine ⟨by omega, by omega, lp_range (fun i σ H3 => ∃ (ah : Int) (u1 u2 u3 : Option V) (ps ws : List Int), σ = [some (.ref a), some (.ref lh), some (.int many), some (.int far), some (.ref lq), some (.ref lp), some (.ref lw), some (.int hd), some (.int ah), u1, u2, u3] ∧
      Same H2 H3 ∧ H3 lp = some (.lst (iL ps)) ∧ H3 lw = some (.lst (iL ws)) ∧ ps.length = i ∧ ws.length = i ∧ i ≤ 12 ∧ (∀ p ∈ ps, 0 ≤ p) ∧ keeps ps hd ws ∧ lastOf hd ws = ah) ?_ ?_ ?_⟩
    · exact ⟨hd, _, _, _, [], [], rfl, s3, by rw [upd_ne hne, upd_same]; rfl, upd_same, rfl, rfl, by decide, by simp, trivial, rfl⟩
    · rintro i σ H3 hi ⟨ah, u1, u2, u3, ps, ws, rfl, sm, hP, hW, lps, lws, hi12, hpos, hk, hlast⟩
      have q3 := sm.seq q2
      walk_at "st"
      refine i_ixL q3 (by omega) (by omega) (fun w0 _ n0 => ?_)
      have c0 := b2 _ n0
      walk_at "st"
      refine i_mulI (cmul_l (by omega) (by omega)) ?_
      walk_at "st"
      have d1 := Int.emod_nonneg (w0 * (1000000000000 + 1)) (show far + 1 ≠ 0 by omega)
      have d2 := Int.emod_lt_of_pos (w0 * (1000000000000 + 1)) (show 0 < far + 1 by omega)
      generalize (w0 * (1000000000000 + 1)) % (far + 1) = play0 at *
      refine ⟨fun σ H4 => ∃ play : Int, σ = [some (.ref a), some (.ref lh), some (.int many), some (.int far), some (.ref lq), some (.ref lp), some (.ref lw), some (.int hd), some (.int ah), some (.int (0 + (i : Int))), some (.int play), u3] ∧ 0 ≤ play ∧ H4 = H3, ?_, ?_⟩
      · walk_at "st"
        refine i_ixL q3 (by omega) (by omega) (fun w1 _ n1 => ?_)
        walk_at "st"
        refine i_if (fun _ => ?_) (fun _ => ?_)
        · walk_at "st"
          refine i_ixL q3 (by omega) (by omega) (fun w2 _ n2 => ?_)
          walk_at "st"
          exact ⟨Int.emod_nonneg _ (by omega), rfl⟩
        · exact ⟨_, rfl, d1, rfl⟩
      · rintro σ H4 ⟨play, rfl, hp0, rfl⟩
        walk_at "st"
        refine i_ixL q3 (by omega) (by omega) (fun w3 _ n3 => ?_)
        have c3 := b2 _ n3
        walk_at "st"
        refine i_mulI (cmul_l (by omega) (by omega)) ?_
        walk_at "st"
        refine i_mulI (cmul_l (by decide) (by decide)) ?_
        walk_at "st"
        have g1 := Int.emod_nonneg (w3 * (1000000000000 + 1)) (show 2 * play + 1 ≠ 0 by omega)
        have g2 := Int.emod_lt_of_pos (w3 * (1000000000000 + 1)) (show 0 < 2 * play + 1 by omega)
        generalize (w3 * (1000000000000 + 1)) % (2 * play + 1) = sd at *
        refine i_ixL q3 (by omega) (by omega) (fun w4 _ n4 => ?_)
        walk_at "st"
        refine i_menu3 (Int.emod_nonneg _ (by decide)) (Int.emod_lt_of_pos _ (by decide)) (fun side hside => ?_)
        have hs1 : side ≤ play ∧ -play ≤ side := by omega
        clear hside
        walk_at "st"
        refine ⟨.inl ⟨rfl, _, SqL.of hP⟩, ?_⟩
        walk_at "st"
        refine i_app hP (szlt (by simp [iL]; omega)) ?_
        walk_at "st"
        have hW' : upd H4 lp (.lst (iL ps ++ [V.int play])) lw = some (.lst (iL ws)) := by rw [upd_ne hne.symm]; exact hW
        refine ⟨.inl ⟨rfl, _, SqL.of hW'⟩, ?_⟩
        walk_at "st"
        refine i_app hW' (szlt (by simp [iL]; omega)) ?_
        refine ⟨ah + side, _, _, _, ps ++ [play], ws ++ [ah + side], rfl, fun b o e => ?_, ?_, ?_, by simp; omega, by simp; omega, by omega, ?_, keeps_snoc ps ws hd (by omega) hk (by omega) (by omega), lastOf_snoc _ _ _⟩
        · have e1 : b ≠ lp := ne_of_none e hp
          have e2 : b ≠ lw := ne_of_none e ((same_upd hp).free hw)
          rw [upd_ne e2, upd_ne e1]; exact sm b o e
        · rw [upd_ne hne, upd_same]; simp [iL]
        · rw [upd_same]; simp [iL]
        · intro p hpm
          rcases List.mem_append.mp hpm with z | z
          · exact hpos p z
          · simp at z; subst z; exact hp0
    · rintro σ H3 ⟨ah, u1, u2, u3, ps, ws, rfl, sm, hP, hW, lps, lws, hi12, hpos, hk, hlast⟩
      walk_at "st"
      intro t ht
      have sA : Same H H3 := (N1.sm.trans N2.sm).trans sm
      exact k t lp lw ps ws hd _ (sA.free ht) ⟨hpf, sA.trans (same_upd ht), same_upd ht _ _ hP⟩ ⟨hwf, sA.trans (same_upd ht), same_upd ht _ _ hW⟩ hne upd_same ⟨by omega, by omega, hpos⟩ ⟨by omega, hk⟩

--SPLIT
def pStd : List Int → PyData
  | [] => .none
  | h :: ws => .tuple [.int h, pL ws]
theorem pd_std {H : Hp} {t : Addr} {L : List Int} {n : Nat} (h : StAt H t L) : PdAt K H (n + 2) (pStd L) (.ref t) := by
  obtain ⟨lw, x, ws, rfl, a, b⟩ := h
  exact pd_tup (SqT.of a) (.cons pd_int (.cons (pd_ints (SqL.of b)) .nil))
theorem pd_stds {H : Hp} {l : Addr} {us : List Addr} {Ls : List (List Int)} {n : Nat} (h : H l = some (.lst (us.map V.ref))) (hP : Paired (StAt H) us Ls) : PdAt K H (n + 3) (.list (Ls.map pStd)) (.ref l) := by
  refine pd_lst (SqL.of h) ?_
  clear h
  induction hP with
  | nil => exact .nil
  | cons r _ ih => exact .cons (pd_std r) ih
def spAbout : Sp := fun vs H Q _ => ∃ (t : Addr) (L : List Int), vs = [.ref t] ∧ StAt H t L ∧ L.length ≤ 20 ∧ ∀ u H', Same H H' → StAt H' u L.reverse → Q (.ref u) H'
theorem ok_law_a_about (T : Txt mg) (D : Def K mg "_law_a_about" s_law_a_about) : Callee P w K mg base "_law_a_about" 1 spAbout := by
  refine D.ok sc_law_a_about bd_law_a_about (fun vs H Q E h => ?len) (fun f cdv A outer s H vs Q E hr h => ?body)
  case len => obtain ⟨t, L, rfl, _⟩ := h; rfl
  case body =>
    obtain ⟨t, L, rfl, ⟨lw, h, ws, rfl, ht, hw⟩, hl, k⟩ := h
    have hu := hr.units
    refine ⟨_, (pss_cons (ps_set (i := 1) sc_law_a_about.nd rfl (Or.inl rfl) (pe_revK K (pe_op op_addP (pe_lst (pa_cons (pe_ix (ix_K K) (pv 0) pe_int (by exact fun _ _ => rfl)) pa_nil)) (pe_ix (ix_K K) (pv 0) pe_int (by exact fun _ _ => rfl))) (po_some (pe_negK (r := -1) (by decide)))))
 (pss_one (ps_ret (pe_tup (pa_cons (pe_ix (ix_K K) (pv 1) pe_int (by exact fun _ _ => rfl)) (pa_cons (pe_slice (sl_listK K) (pv 1) (po_some pe_int) po_none) pa_nil)))))), ?_⟩
    dsimp only [tSeq, tAsg, gName, tOp, tUn, tTest, tB, tAnd, tOr, tNot, tAndV, tOrV, tNotV, tIf, tIfS, tRet, tRetN, tDrop, tNext, tCons, tNil, tCB, tCall, tMenu, tComp, iZip2, iEnum, tNoIf, tTru, tJoin, cxOf_K, tLst, tTup, tSl, tPart, tNoPart, tBM, tBM0, tChain, tC, tFor_eq, gTup, gStar, gLst, gCons, gNil, gSub, iList, iRng1, iRng2, iRng3, iTup, iZip3, tWhile, tRev, tRaise, tCallS, tTry, tAug, tPar, tNever, ipI, List.append_nil]
    walk_at "st"
    refine i_ixT (SqT.of ht) (by decide) (v := .int h) rfl ?_
    walk_at "st"
    intro g1 hg1
    walk_at "st"
    refine i_ixT (SqT.of (same_upd hg1 _ _ ht)) (by decide) (v := .ref lw) rfl ?_
    walk_at "st"
    refine i_addL (a := g1) (b := lw) (xs := [.int h]) (ys := iL ws) upd_same (same_upd hg1 _ _ hw) (szl (by simp [iL] at hl ⊢; omega)) (fun lp hlp => ?_)
    have s1 : Same H _ := (same_upd (o := .lst [.int h]) hg1).trans (same_upd (o := .lst ([.int h] ++ iL ws)) hlp)
    have e1 : upd (upd H g1 (.lst [.int h])) lp (.lst ([.int h] ++ iL ws)) lp = some (.lst (iL (h :: ws))) := by rw [upd_same]; rfl
    generalize upd (upd H g1 (.lst [.int h])) lp (.lst ([.int h] ++ iL ws)) = H1 at *
    walk_at "st"
    refine i_rev (SqL.of e1) (fun lr hlr => ?_)
    have s2 := s1.trans (same_upd (o := .lst (iL (h :: ws).reverse)) hlr)
    have e2 : upd H1 lr (.lst (iL (h :: ws).reverse)) lr = some (.lst (iL (h :: ws).reverse)) := upd_same
    generalize upd H1 lr (.lst (iL (h :: ws).reverse)) = H2 at *
    obtain ⟨hd, tl, hG⟩ : ∃ hd tl, (h :: ws).reverse = hd :: tl := by
      cases hq : (h :: ws).reverse with
      | nil => have := congrArg List.length hq; simp at this
      | cons hd tl => exact ⟨hd, tl, rfl⟩
    rw [hG] at e2 k
    walk_at "st"
    refine i_ixN (SqL.of e2) (i := 0) (by decide) (v := .int hd) rfl ?_
    walk_at "st"
    refine i_slFrom (SqL.of e2) (by decide) (fun l3 hl3 => ?_)
    walk_at "st"
    intro u hu4
    have s3 := same_upd (o := .lst (iL ((hd :: tl).drop (1 : Int).toNat))) hl3
    have s4 := same_upd (o := .tup [.int hd, .ref l3]) hu4
    exact k u _ (s2.trans (s3.trans s4)) ⟨l3, hd, tl, rfl, upd_same, s4 _ _ upd_same⟩
--SPLIT
def spFar (K : PySem.W.Frag) : Sp := fun vs H Q _ => ∃ (t u : Addr) (L G : List Int) (p : Int), vs = [.ref t, .ref u, .int p] ∧ StAt H t L ∧ StAt H u G ∧ G.length = L.length ∧ L.length ≤ 20 ∧ -1 ≤ p ∧ p + 1 < L.length ∧
  ((farL L G).drop (p + 1).toNat).Pairwise (· ≥ ·) ∧ (((farL L G).take (p + 2).toNat).reverse).Pairwise (· ≥ ·) ∧ ∀ H', Same H H' → Q (.bl true) H'
theorem ok_law_a_far (T : Txt mg) (D : Def K mg "_law_a_far" s_law_a_far) : Callee P w K mg base "_law_a_far" 1 (spFar K) := by
  refine D.ok sc_law_a_far bd_law_a_far (fun vs H Q E h => ?len) (fun f cdv A outer s H vs Q E hr h => ?body)
  case len => obtain ⟨t, u, L, G, p, rfl, _⟩ := h; rfl
  case body =>
    obtain ⟨t, u, L, G, p, rfl, ⟨lw, h, ws, rfl, ht, hw⟩, ⟨lw2, h2, ws2, rfl, ht2, hw2⟩, hgl, hl, hp0, hp1, hup, hdn, k⟩ := h
    have hu := hr.units
    refine ⟨_, (pss_cons (ps_set (i := 3) sc_law_a_far.nd rfl (Or.inl rfl) (pe_listZip (by rfl) (by rfl) (by rfl) T.z_list (by rfl) T.z_zip (pa_cons (pe_op op_addP (pe_lst (pa_cons (pe_ix (ix_K K) (pv 0) pe_int (by exact fun _ _ => rfl)) pa_nil)) (pe_ix (ix_K K) (pv 0) pe_int (by exact fun _ _ => rfl))) (pa_cons (pe_op op_addP (pe_lst (pa_cons (pe_ix (ix_K K) (pv 1) pe_int (by exact fun _ _ => rfl)) pa_nil)) (pe_ix (ix_K K) (pv 1) pe_int (by exact fun _ _ => rfl))) pa_nil))))
 (pss_cons (by exact ps_setC (i := 4) sc_law_a_far.nd rfl (Or.inl rfl) (N := ["one", "two"]) (fr := [none, none]) ⟨by rfl, by decide +kernel, by decide +kernel, (show ∀ y ∈ (_ : List (Str × NameKind)), y.2 = NameKind.free → (defScope s_law_a_far).names.lookup y.1 = some .cell ∨ (defScope s_law_a_far).names.lookup y.1 = some .free by decide +kernel), (fr_none (fr_none fr_nil))⟩ (by rfl) (pi_listK K (pv 3)) (fun _ _ _ _ => (pg_tupK K 2 (pgs_cons (pg_name (i := 0) (show List.Nodup (["one", "two"] : List Str) by decide) (by rfl) (by first | exact Or.inl rfl | exact Or.inr rfl)) (pgs_cons (pg_name (i := 1) (show List.Nodup (["one", "two"] : List Str) by decide) (by rfl) (by first | exact Or.inl rfl | exact Or.inr rfl)) pgs_nil)))) (fun _ _ _ _ => pifs_nil) (fun _ _ _ _ => (pe_callB call_absK (by rfl) T.z_abs bt_abs (pa_cons (pe_op op_sub (pv 0) (pv 1)) pa_nil))) (gw_tup (gws_cons (gw_name (by rfl)) (gws_cons (gw_name (by rfl)) gws_nil))))
 (pss_cons (ps_set (i := 5) sc_law_a_far.nd rfl (Or.inl rfl) (pe_slice (sl_listK K) (pv 4) (po_some (pe_op op_addP (pv 2) pe_int)) po_none))
 (pss_cons (ps_set (i := 6) sc_law_a_far.nd rfl (Or.inl rfl) (pe_revK K (pe_slice (sl_listK K) (pv 4) po_none (po_some (pe_op op_addP (pv 2) pe_int))) (po_some (pe_negK (r := -1) (by decide)))))
 (pss_one (ps_ret (pe_and (pe_cmpR (op_eqK K hu) (pv 5) (pe_sortedRev (by rfl) (by rfl) T.z_sorted (pa_cons (pv 5) pa_nil)) (nomark _)) (pe_one (pe_cmpR (op_eqK K hu) (pv 6) (pe_sortedRev (by rfl) (by rfl) T.z_sorted (pa_cons (pv 6) pa_nil)) (nomark _)))))))))), ?_⟩
    dsimp only [tSeq, tAsg, gName, tOp, tUn, tTest, tB, tAnd, tOr, tNot, tAndV, tOrV, tNotV, tIf, tIfS, tRet, tRetN, tDrop, tNext, tCons, tNil, tCB, tCall, tMenu, tComp, iZip2, iEnum, tNoIf, tTru, tJoin, cxOf_K, tLst, tTup, tSl, tPart, tNoPart, tBM, tBM0, tChain, tC, tFor_eq, gTup, gStar, gLst, gCons, gNil, gSub, iList, iRng1, iRng2, iRng3, iTup, iZip3, tWhile, tRev, tRaise, tCallS, tTry, tAug, tPar, tNever, ipI, List.append_nil]
    walk_at "st"
    refine i_ixT (SqT.of ht) (by decide) (v := .int h) rfl ?_
    walk_at "st"
    intro g1 hg1
    walk_at "st"
    refine i_ixT (SqT.of (same_upd hg1 _ _ ht)) (by decide) (v := .ref lw) rfl ?_
    walk_at "st"
    refine i_addL (a := g1) (b := lw) (xs := [.int h]) (ys := iL ws) upd_same (same_upd hg1 _ _ hw) (szl (by simp [iL] at hl ⊢; omega)) (fun lp hlp => ?_)
    have s1 : Same H _ := (same_upd (o := .lst [.int h]) hg1).trans (same_upd (o := .lst ([.int h] ++ iL ws)) hlp)
    have e1 : upd (upd H g1 (.lst [.int h])) lp (.lst ([.int h] ++ iL ws)) lp = some (.lst (iL (h :: ws))) := by rw [upd_same]; rfl
    generalize upd (upd H g1 (.lst [.int h])) lp (.lst ([.int h] ++ iL ws)) = H1 at *
    walk_at "st"
    refine i_ixT (SqT.of (s1 _ _ ht2)) (by decide) (v := .int h2) rfl ?_
    walk_at "st"
    intro g2 hg2
    walk_at "st"
    refine i_ixT (SqT.of (same_upd hg2 _ _ (s1 _ _ ht2))) (by decide) (v := .ref lw2) rfl ?_
    walk_at "st"
    refine i_addL (a := g2) (b := lw2) (xs := [.int h2]) (ys := iL ws2) upd_same (same_upd hg2 _ _ (s1 _ _ hw2)) (szl (by simp [iL] at hl hgl ⊢; omega)) (fun lq hlq => ?_)
    have s2 : Same H1 _ := (same_upd (o := .lst [.int h2]) hg2).trans (same_upd (o := .lst ([.int h2] ++ iL ws2)) hlq)
    have e2 : upd (upd H1 g2 (.lst [.int h2])) lq (.lst ([.int h2] ++ iL ws2)) lq = some (.lst (iL (h2 :: ws2))) := by rw [upd_same]; rfl
    generalize upd (upd H1 g2 (.lst [.int h2])) lq (.lst ([.int h2] ++ iL ws2)) = H2 at *
    have S2 := s1.trans s2
    have E1 := s2 _ _ e1
    clear s1 s2 e1
    generalize h :: ws = L at *
    generalize h2 :: ws2 = G at *
    walk_at "st"
    refine ⟨lp, lq, iL L, iL G, rfl, SqL.of E1, SqL.of e2, fun lb tb H3 s3 _ e3 hP _ _ => ?_⟩
    have hzl : ((iL L).zip (iL G)).length = L.length := by simp [iL]; omega
    have htl : tb.length = L.length := by rw [hP.length, hzl]
    walk_at "st"
    refine ⟨⟨_, SqL.of e3⟩, cp_list (xs := tb.map V.ref) (fun i ys H4 => ys = iL ((farL L G).take i) ∧ i ≤ tb.length ∧ H3 = H4) ⟨by simp, Nat.zero_le _, rfl⟩ ?_ (szlt (by simp; omega)) ?_ ?_⟩
    · rintro i ys H4 ⟨rfl, hi, rfl⟩
      exact ⟨SqL.of e3, by simp [iL]; omega⟩
    · rintro i x ys H4 hx ⟨rfl, hi, rfl⟩
      rw [List.getElem?_map] at hx
      obtain ⟨q, hqi, rfl⟩ := Option.map_eq_some_iff.mp hx
      have hil : i < tb.length := (List.getElem?_eq_some_iff.mp hqi).1
      obtain ⟨pr, hpi, _, hQ⟩ := paired_getL hP hqi
      obtain ⟨x1, hx1⟩ : ∃ x1, L[i]? = some x1 := ⟨_, List.getElem?_eq_getElem (by omega)⟩
      obtain ⟨y1, hy1⟩ : ∃ y1, G[i]? = some y1 := ⟨_, List.getElem?_eq_getElem (by omega)⟩
      have hpr : pr = (.int x1, .int y1) := by
        rw [List.getElem?_zip_eq_some] at hpi
        obtain ⟨z1, z2⟩ := hpi
        rw [List.getElem?_map, hx1] at z1
        rw [List.getElem?_map, hy1] at z2
        simp at z1 z2
        exact Prod.ext z1.symm z2.symm
      subst hpr
      walk_at "st"
      refine ⟨_, _, rfl, SqT.of hQ, rfl, _, _, rfl, _, _, rfl, rfl, ?_⟩
      walk_at "st"
      refine ⟨?_, by omega, rfl⟩
      rw [take_snoc_get (farL_get hx1 hy1)]
      simp [iL]
      split <;> omega
    · rintro lm ys H4 ⟨rfl, hi, rfl⟩ hlm
      have hfl : (farL L G).length = L.length := by unfold farL; rw [List.length_zipWith]; omega
      rw [List.take_of_length_le (by simp; omega)]
      generalize farL L G = F at *
      have s4 := s3.trans (same_upd (o := .lst (iL F)) hlm)
      have e4 : upd H3 lm (.lst (iL F)) lm = some (.lst (iL F)) := upd_same
      generalize upd H3 lm (.lst (iL F)) = H4 at *
      walk_at "st"
      refine i_slFrom (SqL.of e4) (by omega) (fun lu hlu => ?_)
      have s5 := same_upd (o := .lst (iL (F.drop (p + 1).toNat))) hlu
      have e5 : upd H4 lu (.lst (iL (F.drop (p + 1).toNat))) lu = some (.lst (iL (F.drop (p + 1).toNat))) := upd_same
      generalize upd H4 lu (.lst (iL (F.drop (p + 1).toNat))) = H5 at *
      walk_at "st"
      refine i_slTo (SqL.of (s5 _ _ e4)) (by omega) (fun ld hld => ?_)
      have s6 := same_upd (o := .lst (iL (F.take (p + 2).toNat))) hld
      have e6 : upd H5 ld (.lst (iL (F.take (p + 2).toNat))) ld = some (.lst (iL (F.take (p + 2).toNat))) := upd_same
      generalize upd H5 ld (.lst (iL (F.take (p + 2).toNat))) = H6 at *
      walk_at "st"
      refine i_rev (SqL.of e6) (fun lr hlr => ?_)
      have s7 := same_upd (o := .lst (iL (F.take (p + 2).toNat).reverse)) hlr
      have e7 : upd H6 lr (.lst (iL (F.take (p + 2).toNat).reverse)) lr = some (.lst (iL (F.take (p + 2).toNat).reverse)) := upd_same
      generalize upd H6 lr (.lst (iL (F.take (p + 2).toNat).reverse)) = H7 at *
      have e8 := s7 _ _ (s6 _ _ e5)
      have S7 := S2.trans (s4.trans (s5.trans (s6.trans s7)))
      have hL1 : (F.drop (p + 1).toNat).length ≤ 20 := by rw [List.length_drop]; omega
      have hL2 : (F.take (p + 2).toNat).reverse.length ≤ 20 := by rw [List.length_reverse, List.length_take]; omega
      clear s4 s5 s6 s7 e4 e5 e6 s3 e3 S2 E1 e2
      generalize F.drop (p + 1).toNat = U at *
      generalize (F.take (p + 2).toNat).reverse = W at *
      walk_at "st"
      refine ⟨lu, U, rfl, SqL.of e8, by omega, fun l8 ms hl8 hpm hsm => ?_⟩
      have hms : ms = U := falls_eq hpm hsm hup
      subst hms
      have s8 := same_upd (o := .lst (iL ms)) hl8
      walk_at "st"
      refine i_eqL (SqL.of (s8 _ _ e8)) (SqL.of upd_same) ?_
      rw [decide_eq_true rfl]
      walk_at "st"
      refine ⟨lr, W, rfl, SqL.of (s8 _ _ e7), by omega, fun l9 ms2 hl9 hpm2 hsm2 => ?_⟩
      have hms2 : ms2 = W := falls_eq hpm2 hsm2 hdn
      subst hms2
      have s9 := same_upd (o := .lst (iL ms2)) hl9
      walk_at "st"
      refine i_eqL (SqL.of (s9 _ _ (s8 _ _ e7))) (SqL.of upd_same) ?_
      rw [decide_eq_true rfl]
      exact k _ (S7.trans (s8.trans s9))
--SPLIT
def spAlike : Sp := fun vs H Q _ => ∃ (a b r f : Addr) (ps ws : List Int) (h : Int) (ts us : List Addr) (gs : List (Int × Int)), vs = [.ref a, .int h, .ref b, .ref r, .ref f] ∧ H a = some (.lst (iL ps)) ∧ H b = some (.lst (iL ws)) ∧ H r = some (.lst (ts.map V.ref)) ∧ MsAt H ts gs ∧ H f = some (.lst (us.map V.ref)) ∧ Paired (StAt H) us (gRun ps (h :: ws) gs) ∧
  isTr ps ∧ stand ps h ws ∧ okGr ps.length gs ∧ gs.length ≤ 300 ∧ ∀ H', Same H H' → Q (.bl true) H'
theorem StNews.at {H H' : Hp} {us : List Addr} {Ls : List (List Int)} (h : Paired (StNew H H') us Ls) : Paired (StAt H') us Ls := Paired.mapP h fun _ _ z => z.at
theorem ok_law_alike (T : Txt mg) (D : Def K mg "_law_alike" s_law_alike) (C_law_a_about : Callee P w K mg base "_law_a_about" 1 spAbout) (C_grabs_of : Callee P w K mg base "grabs_of" 5 spGrabs) : Callee P w K mg base "_law_alike" 6 spAlike := by
  refine D.ok sc_law_alike bd_law_alike (fun vs H Q E h => ?len) (fun f cdv A outer s H vs Q E hr h => ?body)
  case len => obtain ⟨a, b, r, f, ps, ws, h, ts, us, gs, rfl, _⟩ := h; rfl
  case body =>
    obtain ⟨a, b, r, f, ps, ws, h, ts, us, gs, rfl, hA, hB, hR, hM, hF, hP, hT, hS, hok, hgl, k⟩ := h
    have hu := hr.units
    have htl : ts.length = gs.length := hM.length
    have hrl := gRun_len ps gs (h :: ws)
    have hul : us.length = gs.length := by rw [hP.length, hrl]
    have hLl : (h :: ws).length = ps.length + 1 := by simp [hS.1]
    have hp12 := hT.2.1
    have hwl := hS.1
    have lenG : ∀ L ∈ gRun ps (h :: ws) gs, L.length = ps.length + 1 := by
      have go : ∀ (gs : List (Int × Int)) (L : List Int), L.length = ps.length + 1 → okGr ps.length gs → ∀ R ∈ gRun ps L gs, R.length = ps.length + 1 := by
        intro gs
        induction gs with
        | nil => intro L _ _ R hR; simp [gRun] at hR
        | cons g gs ih =>
          intro L hl hv R hR
          have hg := hv g List.mem_cons_self
          have hl2 : (gAll ps L (g.1 + 1).toNat g.2).length = ps.length + 1 := by rw [gAll_len hl (by omega)]; exact hl
          simp only [gRun] at hR
          rcases List.mem_cons.mp hR with e | e
          · rw [e]; exact hl2
          · exact ih _ hl2 (fun x hx => hv x (List.mem_cons_of_mem _ hx)) R e
      exact go gs _ hLl hok
    refine ⟨_, (pss_cons (ps_set (i := 5) sc_law_alike.nd rfl (Or.inr rfl) (pe_callB (call_lenK K) (by rfl) T.z_len bt_len (pa_cons (pv 0) pa_nil)))
 (pss_cons (ps_set (i := 6) sc_law_alike.nd rfl (Or.inl rfl) (pe_callN C_law_a_about (hr.mono (by decide)) (by rfl) (pa_cons (pe_tup (pa_cons (pv 1) (pa_cons (pv 2) pa_nil))) pa_nil)))
 (pss_cons (by exact ps_setC (i := 7) sc_law_alike.nd rfl (Or.inl rfl) (N := ["piece", "place", "many"]) (fr := [none, none, some 5]) ⟨by rfl, by decide +kernel, by decide +kernel, (show ∀ y ∈ (_ : List (Str × NameKind)), y.2 = NameKind.free → (defScope s_law_alike).names.lookup y.1 = some .cell ∨ (defScope s_law_alike).names.lookup y.1 = some .free by decide +kernel), (fr_none (fr_none (fr_some (by rfl) (by first | exact Or.inl rfl | exact Or.inr rfl) (by rfl) fr_nil)))⟩ (by rfl) (pi_listK K (pv 3)) (fun _ _ _ _ => (pg_tupK K 2 (pgs_cons (pg_name (i := 0) (show List.Nodup (["piece", "place", "many"] : List Str) by decide) (by rfl) (by first | exact Or.inl rfl | exact Or.inr rfl)) (pgs_cons (pg_name (i := 1) (show List.Nodup (["piece", "place", "many"] : List Str) by decide) (by rfl) (by first | exact Or.inl rfl | exact Or.inr rfl)) pgs_nil)))) (fun _ _ _ _ => pifs_nil) (fun _ _ _ _ => (pe_tup (pa_cons (pe_op op_sub (pe_op op_sub (pv 2) pe_int) (pv 0)) (pa_cons (pv 1) pa_nil)))) (gw_tup (gws_cons (gw_name (by rfl)) (gws_cons (gw_name (by rfl)) gws_nil))))
 (pss_cons (ps_set (i := 8) sc_law_alike.nd rfl (Or.inl rfl) (pe_callN C_grabs_of (hr.mono (by decide)) (by rfl) (pa_cons (pe_revK K (pv 0) (po_some (pe_negK (r := -1) (by decide)))) (pa_cons (pe_ix (ix_K K) (pv 6) pe_int (by exact fun _ _ => rfl)) (pa_cons (pe_ix (ix_K K) (pv 6) pe_int (by exact fun _ _ => rfl)) (pa_cons (pv 7) pa_nil))))))
 (pss_cons (ps_if (pt_cmpR (op_neK K hu) (by exact pe_comp (N := ["stand"]) (fr := [none]) ⟨by rfl, by decide +kernel, by decide +kernel, (show ∀ y ∈ (_ : List (Str × NameKind)), y.2 = NameKind.free → (defScope s_law_alike).names.lookup y.1 = some .cell ∨ (defScope s_law_alike).names.lookup y.1 = some .free by decide +kernel), (fr_none fr_nil)⟩ (by rfl) (pi_listK K (pv 8)) (fun _ _ _ _ => (pg_name (i := 0) (show List.Nodup (["stand"] : List Str) by decide) (by rfl) (by first | exact Or.inl rfl | exact Or.inr rfl))) (fun _ _ _ _ => pifs_nil) (fun _ _ _ _ => (pe_callN C_law_a_about (hr.mono (by decide)) (by rfl) (pa_cons (pv 0) pa_nil))) (gw_name (by rfl))) (pv 4) (nomark _))
 (pss_one (ps_ret pe_bl))
 pss_nil)
 (pss_cons (ps_set (i := 9) sc_law_alike.nd rfl (Or.inr rfl) (pe_op op_addP (pe_op op_mulP (pv 1) pe_int) pe_int))
 (pss_cons (by exact ps_setC (i := 10) sc_law_alike.nd rfl (Or.inl rfl) (N := ["piece", "place", "by"]) (fr := [none, none, some 9]) ⟨by rfl, by decide +kernel, by decide +kernel, (show ∀ y ∈ (_ : List (Str × NameKind)), y.2 = NameKind.free → (defScope s_law_alike).names.lookup y.1 = some .cell ∨ (defScope s_law_alike).names.lookup y.1 = some .free by decide +kernel), (fr_none (fr_none (fr_some (by rfl) (by first | exact Or.inl rfl | exact Or.inr rfl) (by rfl) fr_nil)))⟩ (by rfl) (pi_listK K (pv 3)) (fun _ _ _ _ => (pg_tupK K 2 (pgs_cons (pg_name (i := 0) (show List.Nodup (["piece", "place", "by"] : List Str) by decide) (by rfl) (by first | exact Or.inl rfl | exact Or.inr rfl)) (pgs_cons (pg_name (i := 1) (show List.Nodup (["piece", "place", "by"] : List Str) by decide) (by rfl) (by first | exact Or.inl rfl | exact Or.inr rfl)) pgs_nil)))) (fun _ _ _ _ => pifs_nil) (fun _ _ _ _ => (pe_tup (pa_cons (pv 0) (pa_cons (pe_op op_addP (pv 1) (pv 2)) pa_nil)))) (gw_tup (gws_cons (gw_name (by rfl)) (gws_cons (gw_name (by rfl)) gws_nil))))
 (pss_cons (ps_set (i := 11) sc_law_alike.nd rfl (Or.inl rfl) (pe_callN C_grabs_of (hr.mono (by decide)) (by rfl) (pa_cons (pv 0) (pa_cons (pe_op op_addP (pv 1) (pv 9)) (pa_cons (by exact pe_comp (N := ["at", "by"]) (fr := [none, some 9]) ⟨by rfl, by decide +kernel, by decide +kernel, (show ∀ y ∈ (_ : List (Str × NameKind)), y.2 = NameKind.free → (defScope s_law_alike).names.lookup y.1 = some .cell ∨ (defScope s_law_alike).names.lookup y.1 = some .free by decide +kernel), (fr_none (fr_some (by rfl) (by first | exact Or.inl rfl | exact Or.inr rfl) (by rfl) fr_nil))⟩ (by rfl) (pi_listK K (pv 2)) (fun _ _ _ _ => (pg_name (i := 0) (show List.Nodup (["at", "by"] : List Str) by decide) (by rfl) (by first | exact Or.inl rfl | exact Or.inr rfl))) (fun _ _ _ _ => pifs_nil) (fun _ _ _ _ => (pe_op op_addP (pv 0) (pv 1))) (gw_name (by rfl))) (pa_cons (pv 10) pa_nil))))))
 (pss_cons (ps_if (pt_cmpR (op_neK K hu) (pv 11) (by exact pe_comp (N := ["at", "lies", "by"]) (fr := [none, none, some 9]) ⟨by rfl, by decide +kernel, by decide +kernel, (show ∀ y ∈ (_ : List (Str × NameKind)), y.2 = NameKind.free → (defScope s_law_alike).names.lookup y.1 = some .cell ∨ (defScope s_law_alike).names.lookup y.1 = some .free by decide +kernel), (fr_none (fr_none (fr_some (by rfl) (by first | exact Or.inl rfl | exact Or.inr rfl) (by rfl) fr_nil)))⟩ (by rfl) (pi_listK K (pv 4)) (fun _ _ _ _ => (pg_tupK K 2 (pgs_cons (pg_name (i := 0) (show List.Nodup (["at", "lies", "by"] : List Str) by decide) (by rfl) (by first | exact Or.inl rfl | exact Or.inr rfl)) (pgs_cons (pg_name (i := 1) (show List.Nodup (["at", "lies", "by"] : List Str) by decide) (by rfl) (by first | exact Or.inl rfl | exact Or.inr rfl)) pgs_nil)))) (fun _ _ _ _ => pifs_nil) (fun _ _ _ _ => (pe_tup (pa_cons (pe_op op_addP (pv 0) (pv 2)) (pa_cons (by exact pe_comp (N := ["one", "by"]) (fr := [none, some 2]) ⟨by rfl, by decide +kernel, by decide +kernel, nest_frees (by decide +kernel), (fr_none (fr_some (by rfl) (nest_free (by rfl)) (by rfl) fr_nil))⟩ (by rfl) (pi_listK K (pv 1)) (fun _ _ _ _ => (pg_name (i := 0) (show List.Nodup (["one", "by"] : List Str) by decide) (by rfl) (by first | exact Or.inl rfl | exact Or.inr rfl))) (fun _ _ _ _ => pifs_nil) (fun _ _ _ _ => (pe_op op_addP (pv 0) (pv 1))) (gw_name (by rfl))) pa_nil)))) (gw_tup (gws_cons (gw_name (by rfl)) (gws_cons (gw_name (by rfl)) gws_nil)))) (nomark _))
 (pss_one (ps_ret pe_bl))
 pss_nil)
 (pss_cons (by exact ps_setC (i := 12) sc_law_alike.nd rfl (Or.inl rfl) (N := ["piece", "place"]) (fr := [none, none]) ⟨by rfl, by decide +kernel, by decide +kernel, (show ∀ y ∈ (_ : List (Str × NameKind)), y.2 = NameKind.free → (defScope s_law_alike).names.lookup y.1 = some .cell ∨ (defScope s_law_alike).names.lookup y.1 = some .free by decide +kernel), (fr_none (fr_none fr_nil))⟩ (by rfl) (pi_listK K (pv 3)) (fun _ _ _ _ => (pg_tupK K 2 (pgs_cons (pg_name (i := 0) (show List.Nodup (["piece", "place"] : List Str) by decide) (by rfl) (by first | exact Or.inl rfl | exact Or.inr rfl)) (pgs_cons (pg_name (i := 1) (show List.Nodup (["piece", "place"] : List Str) by decide) (by rfl) (by first | exact Or.inl rfl | exact Or.inr rfl)) pgs_nil)))) (fun _ _ _ _ => pifs_nil) (fun _ _ _ _ => (pe_tup (pa_cons (pv 0) (pa_cons (pe_op op_sub pe_int (pv 1)) pa_nil)))) (gw_tup (gws_cons (gw_name (by rfl)) (gws_cons (gw_name (by rfl)) gws_nil))))
 (pss_cons (ps_set (i := 11) sc_law_alike.nd rfl (Or.inl rfl) (pe_callN C_grabs_of (hr.mono (by decide)) (by rfl) (pa_cons (pv 0) (pa_cons (pe_op op_sub pe_int (pv 1)) (pa_cons (by exact pe_comp (N := ["at"]) (fr := [none]) ⟨by rfl, by decide +kernel, by decide +kernel, (show ∀ y ∈ (_ : List (Str × NameKind)), y.2 = NameKind.free → (defScope s_law_alike).names.lookup y.1 = some .cell ∨ (defScope s_law_alike).names.lookup y.1 = some .free by decide +kernel), (fr_none fr_nil)⟩ (by rfl) (pi_listK K (pv 2)) (fun _ _ _ _ => (pg_name (i := 0) (show List.Nodup (["at"] : List Str) by decide) (by rfl) (by first | exact Or.inl rfl | exact Or.inr rfl))) (fun _ _ _ _ => pifs_nil) (fun _ _ _ _ => (pe_op op_sub pe_int (pv 0))) (gw_name (by rfl))) (pa_cons (pv 12) pa_nil))))))
 (pss_one (ps_ret (pe_cmpR (op_eqK K hu) (pv 11) (by exact pe_comp (N := ["at", "lies"]) (fr := [none, none]) ⟨by rfl, by decide +kernel, by decide +kernel, (show ∀ y ∈ (_ : List (Str × NameKind)), y.2 = NameKind.free → (defScope s_law_alike).names.lookup y.1 = some .cell ∨ (defScope s_law_alike).names.lookup y.1 = some .free by decide +kernel), (fr_none (fr_none fr_nil))⟩ (by rfl) (pi_listK K (pv 4)) (fun _ _ _ _ => (pg_tupK K 2 (pgs_cons (pg_name (i := 0) (show List.Nodup (["at", "lies"] : List Str) by decide) (by rfl) (by first | exact Or.inl rfl | exact Or.inr rfl)) (pgs_cons (pg_name (i := 1) (show List.Nodup (["at", "lies"] : List Str) by decide) (by rfl) (by first | exact Or.inl rfl | exact Or.inr rfl)) pgs_nil)))) (fun _ _ _ _ => pifs_nil) (fun _ _ _ _ => (pe_tup (pa_cons (pe_op op_sub pe_int (pv 0)) (pa_cons (by exact pe_comp (N := ["one"]) (fr := [none]) ⟨by rfl, by decide +kernel, by decide +kernel, nest_frees (by decide +kernel), (fr_none fr_nil)⟩ (by rfl) (pi_listK K (pv 1)) (fun _ _ _ _ => (pg_name (i := 0) (show List.Nodup (["one"] : List Str) by decide) (by rfl) (by first | exact Or.inl rfl | exact Or.inr rfl))) (fun _ _ _ _ => pifs_nil) (fun _ _ _ _ => (pe_op op_sub pe_int (pv 0))) (gw_name (by rfl))) pa_nil)))) (gw_tup (gws_cons (gw_name (by rfl)) (gws_cons (gw_name (by rfl)) gws_nil)))) (nomark _))))))))))))))), ?_⟩
    dsimp only [tSeq, tAsg, gName, tOp, tUn, tTest, tB, tAnd, tOr, tNot, tAndV, tOrV, tNotV, tIf, tIfS, tRet, tRetN, tDrop, tNext, tCons, tNil, tCB, tCall, tMenu, tComp, iZip2, iEnum, tNoIf, tTru, tJoin, cxOf_K, tLst, tTup, tSl, tPart, tNoPart, tBM, tBM0, tChain, tC, tFor_eq, gTup, gStar, gLst, gCons, gNil, gSub, iList, iRng1, iRng2, iRng3, iTup, iZip3, tWhile, tRev, tRaise, tCallS, tTry, tAug, tPar, tNever, ipI, List.append_nil]
    walk_at "st"
    refine i_lenI (SqL.of hA) ?_
    walk_at "st"
    intro t0 h0
    have s0 := same_upd (o := .tup [.int h, .ref b]) h0
    have e0 : upd H t0 (.tup [.int h, .ref b]) t0 = some (.tup [.int h, .ref b]) := upd_same
    generalize upd H t0 (.tup [.int h, .ref b]) = H0 at *
    walk_at "st"
    refine ⟨t0, h :: ws, rfl, ⟨b, h, ws, rfl, e0, s0 _ _ hB⟩, by omega, fun to H1 s1 ho => ?_⟩
    obtain ⟨lo, ho1, wo, hrev, eo, fo⟩ := ho
    have S1 := s0.trans s1
    clear s0 e0 s1
    walk_at "st"
    -- a list of pairs out of the row
    refine ⟨⟨_, SqL.of (S1 _ _ hR)⟩, cp_list (xs := ts.map V.ref) (fun i ys H2 => ∃ qs : List Addr, ys = qs.map V.ref ∧ qs.length = i ∧ Same H1 H2 ∧ MsAt H2 qs ((gs.take i).map fun g => ((ps.length : Int) - 2 - g.1, g.2))) ⟨[], rfl, rfl, Same.refl _, .nil⟩ ?_ (szlt (by simp; omega)) ?_ ?_⟩
    · rintro i ys H2 ⟨qs, rfl, hq, sm, _⟩
      exact ⟨SqL.of (sm _ _ (S1 _ _ hR)), by simp; omega⟩
    · rintro i x ys H2 hx ⟨qs, rfl, hq, sm, hQ⟩
      rw [List.getElem?_map] at hx
      obtain ⟨t, hti, rfl⟩ := Option.map_eq_some_iff.mp hx
      obtain ⟨g, hgi, hTg⟩ := paired_getL hM hti
      walk_at "st"
      refine ⟨_, _, rfl, SqT.of (sm _ _ (S1 _ _ hTg)), rfl, _, _, rfl, _, _, rfl, rfl, ?_⟩
      walk_at "st"
      intro q hq2
      have s5 := same_upd (o := .tup [.int ((ps.length : Int) - 2 - g.1), .int g.2]) hq2
      refine ⟨qs ++ [q], by simp, by simp; omega, sm.trans s5, ?_⟩
      rw [take_snoc_get hgi, List.map_append]
      exact Paired.snoc (hQ.more s5) upd_same
    rintro lt ys H2 ⟨qs, rfl, hq, sm2, hQ⟩ hlt
    rw [List.take_of_length_le (by simp; omega)] at hQ
    have s3 := same_upd (o := .lst (qs.map V.ref)) hlt
    have e3 : upd H2 lt (.lst (qs.map V.ref)) lt = some (.lst (qs.map V.ref)) := upd_same
    have hQ3 := hQ.more s3
    have S3 := sm2.trans s3
    generalize upd H2 lt (.lst (qs.map V.ref)) = H3 at *
    clear hQ s3 sm2 hlt
    replace eo := S3 _ _ eo
    replace fo := S3 _ _ fo
    have S3' := S1.trans S3
    clear S1 S3
    walk_at "st"
    refine i_rev (SqL.of (S3' _ _ hA)) (fun la hla => ?_)
    have s4 := same_upd (o := .lst (iL ps.reverse)) hla
    have e4 : upd H3 la (.lst (iL ps.reverse)) la = some (.lst (iL ps.reverse)) := upd_same
    generalize upd H3 la (.lst (iL ps.reverse)) = H4 at *
    walk_at "st"
    refine i_ixT (SqT.of (s4 _ _ eo)) (by decide) (v := .int ho1) rfl ?_
    walk_at "st"
    refine i_ixT (SqT.of (s4 _ _ eo)) (by decide) (v := .ref lo) rfl ?_
    walk_at "st"
    have hTr : isTr ps.reverse := ⟨by rw [List.length_reverse]; exact hT.1, by rw [List.length_reverse]; exact hT.2.1, fun p hp => hT.2.2 p (List.mem_reverse.mp hp)⟩
    refine ⟨la, lo, lt, ps.reverse, wo, ho1, qs, _, rfl, e4, s4 _ _ fo, s4 _ _ e3, hQ3.more s4, by simp; omega, hTr, stand_rev hS hrev, fun g hg => ?_, fun l5 us5 H5 s5 _ e5 hP5 => ?_⟩
    · obtain ⟨g0, hg0, rfl⟩ := List.mem_map.mp hg
      have := hok g0 hg0
      simp only [List.length_reverse]
      omega
    rw [← hrev, gRun_rev ps gs _ hLl hok] at hP5
    replace hP5 := StNews.at hP5
    have S5 := S3'.trans (s4.trans s5)
    have hul5 : us5.length = gs.length := by rw [hP5.length, List.length_map, hrl]
    clear S3' s4 s5 e4 e3 hQ3 eo fo hrev
    walk_at "st"
    refine ⟨⟨_, SqL.of e5⟩, cp_list (xs := us5.map V.ref) (fun i ys H6 => ∃ vs : List Addr, ys = vs.map V.ref ∧ vs.length = i ∧ Same H5 H6 ∧ Paired (StAt H6) vs ((gRun ps (h :: ws) gs).take i)) ⟨[], rfl, rfl, Same.refl _, .nil⟩ ?_ (szlt (by simp; omega)) ?_ ?_⟩
    · rintro i ys H6 ⟨vs, rfl, hvl, sm, _⟩
      exact ⟨SqL.of (sm _ _ e5), by simp; omega⟩
    · rintro i x ys H6 hx ⟨vs, rfl, hvl, sm, hV⟩
      rw [List.getElem?_map] at hx
      obtain ⟨u, hui, rfl⟩ := Option.map_eq_some_iff.mp hx
      obtain ⟨L, hLi, hSt⟩ := paired_getL hP5 hui
      rw [List.getElem?_map] at hLi
      obtain ⟨L0, hL0, rfl⟩ := Option.map_eq_some_iff.mp hLi
      have hll := lenG L0 (List.mem_of_getElem? hL0)
      walk_at "st"
      refine ⟨u, L0.reverse, rfl, hSt.more sm, by simp; omega, fun v H7 s7 hv => ?_⟩
      rw [List.reverse_reverse] at hv
      refine ⟨vs ++ [v], by simp, by simp; omega, sm.trans s7, ?_⟩
      rw [take_snoc_get hL0]
      exact Paired.snoc (Paired.mapP hV fun _ _ z => z.more s7) hv
    rintro l6 ys H6 ⟨vs, rfl, hvl, sm6, hV⟩ hl6
    rw [List.take_of_length_le (by simp; omega)] at hV
    have s7 := same_upd (o := .lst (vs.map V.ref)) hl6
    have e7 : upd H6 l6 (.lst (vs.map V.ref)) l6 = some (.lst (vs.map V.ref)) := upd_same
    have hV7 : Paired (StAt (upd H6 l6 (.lst (vs.map V.ref)))) vs (gRun ps (h :: ws) gs) := Paired.mapP hV fun _ _ z => z.more s7
    have S7 := S5.trans (sm6.trans s7)
    generalize upd H6 l6 (.lst (vs.map V.ref)) = H7 at *
    clear S5 sm6 s7 hV e5 hP5
    walk_at "st"
    refine i_neSame _ (pd_stds e7 hV7) (pd_stds (S7 _ _ hF) (Paired.mapP hP fun _ _ z => z.more S7)) ?_
    walk_at "st"
    refine i_mulI (cmul_r (by decide) (by decide)) ?_
    walk_at "st"
    generalize h * 3 + 7 = by_ at *
    -- moved
    refine ⟨⟨_, SqL.of (S7 _ _ hR)⟩, cp_list (xs := ts.map V.ref) (fun i ys H2 => ∃ qs : List Addr, ys = qs.map V.ref ∧ qs.length = i ∧ Same H7 H2 ∧ MsAt H2 qs ((gs.take i).map fun g => (g.1, g.2 + by_))) ⟨[], rfl, rfl, Same.refl _, .nil⟩ ?_ (szlt (by simp; omega)) ?_ ?_⟩
    · rintro i ys H2 ⟨qs, rfl, hq, sm, _⟩
      exact ⟨SqL.of (sm _ _ (S7 _ _ hR)), by simp; omega⟩
    · rintro i x ys H2 hx ⟨qs, rfl, hq, sm, hQ⟩
      rw [List.getElem?_map] at hx
      obtain ⟨t, hti, rfl⟩ := Option.map_eq_some_iff.mp hx
      obtain ⟨g, hgi, hTg⟩ := paired_getL hM hti
      walk_at "st"
      refine ⟨_, _, rfl, SqT.of (sm _ _ (S7 _ _ hTg)), rfl, _, _, rfl, _, _, rfl, rfl, ?_⟩
      walk_at "st"
      intro q hq2
      have s5 := same_upd (o := .tup [.int g.1, .int (g.2 + by_)]) hq2
      refine ⟨qs ++ [q], by simp, by simp; omega, sm.trans s5, ?_⟩
      rw [take_snoc_get hgi, List.map_append]
      exact Paired.snoc (hQ.more s5) upd_same
    rintro lm ys H8 ⟨ms, rfl, hml, sm8, hQ8⟩ hlm
    rw [List.take_of_length_le (by simp; omega)] at hQ8
    have s9 := same_upd (o := .lst (ms.map V.ref)) hlm
    have e9 : upd H8 lm (.lst (ms.map V.ref)) lm = some (.lst (ms.map V.ref)) := upd_same
    have hQ9 := hQ8.more s9
    have S9 := S7.trans (sm8.trans s9)
    generalize upd H8 lm (.lst (ms.map V.ref)) = H9 at *
    clear S7 sm8 s9 hQ8 e7 hV7
    walk_at "st"
    refine ⟨⟨_, SqL.of (S9 _ _ hB)⟩, cp_list (xs := iL ws) (fun i ys H2 => ys = iL ((ws.map (· + by_)).take i) ∧ i ≤ ws.length ∧ H9 = H2) ⟨by simp, Nat.zero_le _, rfl⟩ ?_ (szlt (by simp [iL]; omega)) ?_ ?_⟩
    · rintro i ys H2 ⟨rfl, hi, rfl⟩
      exact ⟨SqL.of (S9 _ _ hB), by simp [iL]; omega⟩
    · rintro i x ys H2 hx ⟨rfl, hi, rfl⟩
      rw [List.getElem?_map] at hx
      obtain ⟨z, hzi, rfl⟩ := Option.map_eq_some_iff.mp hx
      have hil : i < ws.length := (List.getElem?_eq_some_iff.mp hzi).1
      walk_at "st"
      refine ⟨?_, by omega, rfl⟩
      rw [take_snoc_get (show (ws.map (· + by_))[i]? = some (z + by_) by rw [List.getElem?_map, hzi]; rfl)]
      simp [iL]
    rintro lw ys H10 ⟨rfl, _, rfl⟩ hlw
    rw [List.take_of_length_le (by simp [iL])]
    have s10 := same_upd (o := .lst (iL (ws.map (· + by_)))) hlw
    have e10 : upd H9 lw (.lst (iL (ws.map (· + by_)))) lw = some (.lst (iL (ws.map (· + by_)))) := upd_same
    generalize upd H9 lw (.lst (iL (ws.map (· + by_)))) = H10 at *
    have S10 := S9.trans s10
    walk_at "st"
    refine ⟨a, lw, lm, ps, ws.map (· + by_), h + by_, ms, _, rfl, S10 _ _ hA, e10, s10 _ _ e9, hQ9.more s10, by simp; omega, hT, stand_sh by_ hS, fun g hg => ?_, fun l11 us11 H11 s11 _ e11 hP11 => ?_⟩
    · obtain ⟨g0, hg0, rfl⟩ := List.mem_map.mp hg
      exact hok g0 hg0
    rw [show (h + by_) :: ws.map (· + by_) = (h :: ws).map (· + by_) from rfl, gRun_sh by_ ps gs] at hP11
    replace hP11 := StNews.at hP11
    have S11 := S10.trans s11
    clear S9 s10 S10 e9 e10 hQ9 s11
    walk_at "st"
    refine ⟨⟨_, SqL.of (S11 _ _ hF)⟩, cp_list (xs := us.map V.ref) (fun i ys H6 => ∃ vs : List Addr, ys = vs.map V.ref ∧ vs.length = i ∧ Same H11 H6 ∧ Paired (StAt H6) vs (((gRun ps (h :: ws) gs).take i).map fun R => R.map (· + by_))) ⟨[], rfl, rfl, Same.refl _, .nil⟩ ?_ (szlt (by simp; omega)) ?_ ?_⟩
    · rintro i ys H6 ⟨vs, rfl, hvl, sm, _⟩
      exact ⟨SqL.of (sm _ _ (S11 _ _ hF)), by simp; omega⟩
    · rintro i x ys H6 hx ⟨vs, rfl, hvl, sm, hV⟩
      rw [List.getElem?_map] at hx
      obtain ⟨u, hui, rfl⟩ := Option.map_eq_some_iff.mp hx
      obtain ⟨L0, hL0, hSt⟩ := paired_getL hP hui
      have hll := lenG L0 (List.mem_of_getElem? hL0)
      obtain ⟨lz, z0, zs, rfl, y1, y2⟩ := hSt.more (S11.trans sm)
      walk_at "st"
      refine ⟨_, _, rfl, SqT.of y1, rfl, _, _, rfl, _, _, rfl, rfl, ?_⟩
      walk_at "st"
      refine ⟨⟨_, SqL.of y2⟩, cp_list (xs := iL zs) (fun j ys2 H2 => ys2 = iL ((zs.map (· + by_)).take j) ∧ j ≤ zs.length ∧ H6 = H2) ⟨by simp, Nat.zero_le _, rfl⟩ ?_ (szlt (by simp [iL] at hll ⊢; omega)) ?_ ?_⟩
      · rintro j ys2 H2 ⟨rfl, hj, rfl⟩
        exact ⟨SqL.of y2, by simp [iL]; omega⟩
      · rintro j x ys2 H2 hx ⟨rfl, hj, rfl⟩
        rw [List.getElem?_map] at hx
        obtain ⟨z, hzi, rfl⟩ := Option.map_eq_some_iff.mp hx
        have hil : j < zs.length := (List.getElem?_eq_some_iff.mp hzi).1
        walk_at "st"
        refine ⟨?_, by omega, rfl⟩
        rw [take_snoc_get (show (zs.map (· + by_))[j]? = some (z + by_) by rw [List.getElem?_map, hzi]; rfl)]
        simp [iL]
      rintro ln ys2 H2 ⟨rfl, _, rfl⟩ hln
      rw [List.take_of_length_le (by simp [iL])]
      have s12 := same_upd (o := .lst (iL (zs.map (· + by_)))) hln
      have e12 : upd H6 ln (.lst (iL (zs.map (· + by_)))) ln = some (.lst (iL (zs.map (· + by_)))) := upd_same
      generalize upd H6 ln (.lst (iL (zs.map (· + by_)))) = H12 at *
      walk_at "st"
      intro v hv
      have s13 := same_upd (o := .tup [.int (z0 + by_), .ref ln]) hv
      refine ⟨vs ++ [v], by simp, by simp; omega, sm.trans (s12.trans s13), ?_⟩
      rw [take_snoc_get hL0, List.map_append]
      exact Paired.snoc (Paired.mapP hV fun _ _ z => (z.more s12).more s13) ⟨ln, z0 + by_, zs.map (· + by_), rfl, upd_same, s13 _ _ e12⟩
    rintro l12 ys H12 ⟨vs, rfl, hvl, sm12, hV⟩ hl12
    rw [List.take_of_length_le (by simp; omega)] at hV
    have s13 := same_upd (o := .lst (vs.map V.ref)) hl12
    have e13 : upd H12 l12 (.lst (vs.map V.ref)) l12 = some (.lst (vs.map V.ref)) := upd_same
    have hV13 : Paired (StAt (upd H12 l12 (.lst (vs.map V.ref)))) vs _ := Paired.mapP hV fun _ _ z => z.more s13
    have s14 := sm12.trans s13
    generalize upd H12 l12 (.lst (vs.map V.ref)) = H13 at *
    walk_at "st"
    refine i_neSame _ (pd_stds (s14 _ _ e11) (Paired.mapP hP11 fun _ _ z => z.more s14)) (pd_stds e13 hV13) ?_
    have S14 := S11.trans s14
    clear S11 s14 hV hV13 e13 s13 sm12 e11 hP11
    walk_at "st"
    -- turned over
    refine ⟨⟨_, SqL.of (S14 _ _ hR)⟩, cp_list (xs := ts.map V.ref) (fun i ys H2 => ∃ qs : List Addr, ys = qs.map V.ref ∧ qs.length = i ∧ Same H13 H2 ∧ MsAt H2 qs ((gs.take i).map fun g => (g.1, 0 - g.2))) ⟨[], rfl, rfl, Same.refl _, .nil⟩ ?_ (szlt (by simp; omega)) ?_ ?_⟩
    · rintro i ys H2 ⟨qs, rfl, hq, sm, _⟩
      exact ⟨SqL.of (sm _ _ (S14 _ _ hR)), by simp; omega⟩
    · rintro i x ys H2 hx ⟨qs, rfl, hq, sm, hQ⟩
      rw [List.getElem?_map] at hx
      obtain ⟨t, hti, rfl⟩ := Option.map_eq_some_iff.mp hx
      obtain ⟨g, hgi, hTg⟩ := paired_getL hM hti
      walk_at "st"
      refine ⟨_, _, rfl, SqT.of (sm _ _ (S14 _ _ hTg)), rfl, _, _, rfl, _, _, rfl, rfl, ?_⟩
      walk_at "st"
      intro q hq2
      have s5 := same_upd (o := .tup [.int g.1, .int (0 - g.2)]) hq2
      refine ⟨qs ++ [q], by simp, by simp; omega, sm.trans s5, ?_⟩
      rw [take_snoc_get hgi, List.map_append]
      exact Paired.snoc (hQ.more s5) upd_same
    rintro lm ys H8 ⟨ms, rfl, hml, sm8, hQ8⟩ hlm
    rw [List.take_of_length_le (by simp; omega)] at hQ8
    have s9 := same_upd (o := .lst (ms.map V.ref)) hlm
    have e9 : upd H8 lm (.lst (ms.map V.ref)) lm = some (.lst (ms.map V.ref)) := upd_same
    have hQ9 := hQ8.more s9
    have S9 := S14.trans (sm8.trans s9)
    generalize upd H8 lm (.lst (ms.map V.ref)) = H9 at *
    clear S14 sm8 s9 hQ8
    walk_at "st"
    refine ⟨⟨_, SqL.of (S9 _ _ hB)⟩, cp_list (xs := iL ws) (fun i ys H2 => ys = iL ((ws.map (0 - ·)).take i) ∧ i ≤ ws.length ∧ H9 = H2) ⟨by simp, Nat.zero_le _, rfl⟩ ?_ (szlt (by simp [iL]; omega)) ?_ ?_⟩
    · rintro i ys H2 ⟨rfl, hi, rfl⟩
      exact ⟨SqL.of (S9 _ _ hB), by simp [iL]; omega⟩
    · rintro i x ys H2 hx ⟨rfl, hi, rfl⟩
      rw [List.getElem?_map] at hx
      obtain ⟨z, hzi, rfl⟩ := Option.map_eq_some_iff.mp hx
      have hil : i < ws.length := (List.getElem?_eq_some_iff.mp hzi).1
      walk_at "st"
      refine ⟨?_, by omega, rfl⟩
      rw [take_snoc_get (show (ws.map (0 - ·))[i]? = some (0 - z) by rw [List.getElem?_map, hzi]; rfl)]
      simp [iL]
    rintro lw ys H10 ⟨rfl, _, rfl⟩ hlw
    rw [List.take_of_length_le (by simp [iL])]
    have s10 := same_upd (o := .lst (iL (ws.map (0 - ·)))) hlw
    have e10 : upd H9 lw (.lst (iL (ws.map (0 - ·)))) lw = some (.lst (iL (ws.map (0 - ·)))) := upd_same
    generalize upd H9 lw (.lst (iL (ws.map (0 - ·)))) = H10 at *
    have S10 := S9.trans s10
    walk_at "st"
    refine ⟨a, lw, lm, ps, ws.map (0 - ·), 0 - h, ms, _, rfl, S10 _ _ hA, e10, s10 _ _ e9, hQ9.more s10, by simp; omega, hT, stand_ov hS, fun g hg => ?_, fun l11 us11 H11 s11 _ e11 hP11 => ?_⟩
    · obtain ⟨g0, hg0, rfl⟩ := List.mem_map.mp hg
      exact hok g0 hg0
    rw [show (0 - h) :: ws.map (0 - ·) = (h :: ws).map (0 - ·) from rfl, gRun_ov ps hT.2.2 gs] at hP11
    replace hP11 := StNews.at hP11
    have S11 := S10.trans s11
    clear S9 s10 S10 e9 e10 hQ9 s11
    walk_at "st"
    refine ⟨⟨_, SqL.of (S11 _ _ hF)⟩, cp_list (xs := us.map V.ref) (fun i ys H6 => ∃ vs : List Addr, ys = vs.map V.ref ∧ vs.length = i ∧ Same H11 H6 ∧ Paired (StAt H6) vs (((gRun ps (h :: ws) gs).take i).map fun R => R.map (0 - ·))) ⟨[], rfl, rfl, Same.refl _, .nil⟩ ?_ (szlt (by simp; omega)) ?_ ?_⟩
    · rintro i ys H6 ⟨vs, rfl, hvl, sm, _⟩
      exact ⟨SqL.of (sm _ _ (S11 _ _ hF)), by simp; omega⟩
    · rintro i x ys H6 hx ⟨vs, rfl, hvl, sm, hV⟩
      rw [List.getElem?_map] at hx
      obtain ⟨u, hui, rfl⟩ := Option.map_eq_some_iff.mp hx
      obtain ⟨L0, hL0, hSt⟩ := paired_getL hP hui
      have hll := lenG L0 (List.mem_of_getElem? hL0)
      obtain ⟨lz, z0, zs, rfl, y1, y2⟩ := hSt.more (S11.trans sm)
      walk_at "st"
      refine ⟨_, _, rfl, SqT.of y1, rfl, _, _, rfl, _, _, rfl, rfl, ?_⟩
      walk_at "st"
      refine ⟨⟨_, SqL.of y2⟩, cp_list (xs := iL zs) (fun j ys2 H2 => ys2 = iL ((zs.map (0 - ·)).take j) ∧ j ≤ zs.length ∧ H6 = H2) ⟨by simp, Nat.zero_le _, rfl⟩ ?_ (szlt (by simp [iL] at hll ⊢; omega)) ?_ ?_⟩
      · rintro j ys2 H2 ⟨rfl, hj, rfl⟩
        exact ⟨SqL.of y2, by simp [iL]; omega⟩
      · rintro j x ys2 H2 hx ⟨rfl, hj, rfl⟩
        rw [List.getElem?_map] at hx
        obtain ⟨z, hzi, rfl⟩ := Option.map_eq_some_iff.mp hx
        have hil : j < zs.length := (List.getElem?_eq_some_iff.mp hzi).1
        walk_at "st"
        refine ⟨?_, by omega, rfl⟩
        rw [take_snoc_get (show (zs.map (0 - ·))[j]? = some (0 - z) by rw [List.getElem?_map, hzi]; rfl)]
        simp [iL]
      rintro ln ys2 H2 ⟨rfl, _, rfl⟩ hln
      rw [List.take_of_length_le (by simp [iL])]
      have s12 := same_upd (o := .lst (iL (zs.map (0 - ·)))) hln
      have e12 : upd H6 ln (.lst (iL (zs.map (0 - ·)))) ln = some (.lst (iL (zs.map (0 - ·)))) := upd_same
      generalize upd H6 ln (.lst (iL (zs.map (0 - ·)))) = H12 at *
      walk_at "st"
      intro v hv
      have s13 := same_upd (o := .tup [.int (0 - z0), .ref ln]) hv
      refine ⟨vs ++ [v], by simp, by simp; omega, sm.trans (s12.trans s13), ?_⟩
      rw [take_snoc_get hL0, List.map_append]
      exact Paired.snoc (Paired.mapP hV fun _ _ z => (z.more s12).more s13) ⟨ln, 0 - z0, zs.map (0 - ·), rfl, upd_same, s13 _ _ e12⟩
    rintro l12 ys H12 ⟨vs, rfl, hvl, sm12, hV⟩ hl12
    rw [List.take_of_length_le (by simp; omega)] at hV
    have s13 := same_upd (o := .lst (vs.map V.ref)) hl12
    have e13 : upd H12 l12 (.lst (vs.map V.ref)) l12 = some (.lst (vs.map V.ref)) := upd_same
    have hV13 : Paired (StAt (upd H12 l12 (.lst (vs.map V.ref)))) vs _ := Paired.mapP hV fun _ _ z => z.more s13
    have s14 := sm12.trans s13
    generalize upd H12 l12 (.lst (vs.map V.ref)) = H14 at *
    walk_at "st"
    refine i_eqSame _ (pd_stds (s14 _ _ e11) (Paired.mapP hP11 fun _ _ z => z.more s14)) (pd_stds e13 hV13) ?_
    exact k _ (S11.trans s14)
--SPLIT
theorem sum_nonneg : ∀ {ps : List Int}, (∀ p ∈ ps, 0 ≤ p) → 0 ≤ ps.sum
  | [], _ => by simp
  | p :: ps, h => by
    have := sum_nonneg (ps := ps) fun q hq => h q (List.mem_cons_of_mem _ hq)
    have := h p List.mem_cons_self
    simp
    omega
/-- the row that grows -/
structure RSt (H : Hp) (lp lw lrow : Addr) (ps ws : List Int) (ts : List Addr) (gs : List (Int × Int)) : Prop where
  p : H lp = some (.lst (iL ps))
  w : H lw = some (.lst (iL ws))
  r : H lrow = some (.lst (ts.map V.ref))
  m : MsAt H ts gs
theorem RSt.more {H H' : Hp} {lp lw lrow : Addr} {ps ws : List Int} {ts : List Addr} {gs : List (Int × Int)} (S : RSt H lp lw lrow ps ws ts gs) (s : Same H H') : RSt H' lp lw lrow ps ws ts gs := ⟨s _ _ S.p, s _ _ S.w, s _ _ S.r, S.m.more s⟩
theorem RSt.push {H : Hp} {lp lw lrow t : Addr} {ps ws : List Int} {ts : List Addr} {gs : List (Int × Int)} {g : Int × Int} (S : RSt H lp lw lrow ps ws ts gs) (np : lp ≠ lrow) (nw : lw ≠ lrow) (ht : H t = some (.tup [.int g.1, .int g.2])) : RSt (upd H lrow (.lst (ts.map V.ref ++ [.ref t]))) lp lw lrow ps ws (ts ++ [t]) (gs ++ [g]) := by
  have nt : t ≠ lrow := fun z => by rw [z, S.r] at ht; cases ht
  exact ⟨by rw [upd_ne np]; exact S.p, by rw [upd_ne nw]; exact S.w, by rw [upd_same]; simp, Paired.snoc (S.m.up S.r) (by rw [upd_ne nt]; exact ht)⟩
theorem okGr_snoc {n : Nat} {gs : List (Int × Int)} {g : Int × Int} (h : okGr n gs) (hg : -1 ≤ g.1 ∧ g.1 < n) : okGr n (gs ++ [g]) := fun x hx => by
  rcases List.mem_append.mp hx with z | z
  · exact h x z
  · simp at z; subst z; exact hg
theorem gRun_get (ps : List Int) : ∀ (gs : List (Int × Int)) (L : List Int) (k : Nat) (g : Int × Int), gs[k]? = some g → (gRun ps L gs)[k]? = some (gAll ps (gEnd ps L (gs.take k)) (g.1 + 1).toNat g.2)
  | [], _, _, _, h => by simp at h
  | g0 :: gs, L, 0, g, h => by simp at h; subst h; simp [gRun, gEnd]
  | g0 :: gs, L, k + 1, g, h => by
    simp only [gRun, List.getElem?_cons_succ, List.take_succ_cons, gEnd]
    exact gRun_get ps gs _ k g (by simpa using h)
theorem gEnd_stand {ps : List Int} (hT : isTr ps) : ∀ (gs : List (Int × Int)) (L : List Int), okGr ps.length gs → (∃ h ws, L = h :: ws ∧ stand ps h ws) → ∃ h ws, gEnd ps L gs = h :: ws ∧ stand ps h ws
  | [], L, _, h => h
  | g :: gs, L, hv, ⟨h, ws, e, hs⟩ => by
    subst e
    have hg := hv g List.mem_cons_self
    have hl : (h :: ws).length = ps.length + 1 := by simp [hs.1]
    obtain ⟨hd, tl, e⟩ := gAll_cons (c := g.2) hl (show (g.1 + 1).toNat ≤ ps.length by omega)
    simp only [gEnd]
    exact gEnd_stand hT gs _ (fun x hx => hv x (List.mem_cons_of_mem _ hx)) ⟨hd, tl, e, gAll_stand hl (by omega) hT.2.2 e⟩
theorem ok_law {f : Addr} {fd : FuncData} (F : Fun K "law" "law" s_law f fd) (T : Txt mg) (C_law_train : Callee P w K mg base "_law_train" 2 (spTrain K)) (C_law_cell_at : Callee P w K mg base "_law_cell_at" 1 (spCellAt K)) (C_law_draws : Callee P w K mg base "_law_draws" 1 spDraws) (C_grabs_of : Callee P w K mg base "grabs_of" 5 spGrabs) (C_law_alike : Callee P w K mg base "_law_alike" 6 spAlike) (C_is_stand : Callee P w K mg base "is_stand" 3 (spIsStand K)) (C_law_a_far : Callee P w K mg base "_law_a_far" 1 (spFar K)) (C_turned : Callee P w K mg base "turned" 5 (spTurned K)) (C_grabbed : Callee P w K mg base "grabbed" 6 spGrabbed) :
    FnOk P w K mg base CX0 8 f fd ["script"] (spLaw K) := by
  refine F.ok sc_law (fun vs H Q E h => ?_) (fun cdv A outer s H vs Q E hr h => ?_)
  · obtain ⟨a, ns, rfl, _⟩ := h
    rfl
  · obtain ⟨a, ns, rfl, hS, hlen, k⟩ := h
    have hu := hr.units
    refine ⟨_, (pss_cons (ps_asg (pe_callN C_law_train (hr.mono (by decide)) (by rfl) (pa_cons (pv 0) pa_nil)) (pg_tupK K 3 (pgs_cons (pg_name (i := 1) sc_law.nd rfl (Or.inl rfl)) (pgs_cons (pg_name (i := 2) sc_law.nd rfl (Or.inl rfl)) (pgs_cons (pg_name (i := 3) sc_law.nd rfl (Or.inl rfl)) pgs_nil)))))
 (pss_cons (ps_set (i := 4) sc_law.nd rfl (Or.inl rfl) (pe_callB (call_lenK K) (by rfl) T.z_len bt_len (pa_cons (pv 1) pa_nil)))
 (pss_cons (ps_set (i := 5) sc_law.nd rfl (Or.inl rfl) (pe_op op_addP (pe_op op_mulP pe_int (pe_callB (call_sumK K) (by rfl) T.z_sum bt_sum (pa_cons (pv 1) pa_nil))) pe_int))
 (pss_cons (ps_set (i := 6) sc_law.nd rfl (Or.inl rfl) (pe_lst pa_nil))
 (pss_cons (ps_for PassesOwn.never rfl (pi_listK K (pe_op op_addP (pe_lst (pa_cons (pe_callN C_law_cell_at (hr.mono (by decide)) (by rfl) (pa_cons (pv 0) (pa_cons pe_int pa_nil))) pa_nil)) (pe_slice (sl_listK K) (pv 0) (po_some pe_int) (po_some pe_int)))) (pg_name (i := 7) sc_law.nd rfl (Or.inl rfl))
 (pss_cons (ps_set (i := 8) sc_law.nd rfl (Or.inl rfl) (pe_callN C_law_draws (hr.mono (by decide)) (by rfl) (pa_cons (pv 7) (pa_cons pe_int (pa_cons (pe_powK (r := 1000000000) (by decide)) pa_nil)))))
 (pss_cons (ps_set (i := 9) sc_law.nd rfl (Or.inl rfl) (pe_op op_sub (pe_op op_addP (pv 2) (pe_op op_mod (pe_op op_mulP (pe_ix (ix_K K) (pv 8) pe_int (by exact fun _ _ => rfl)) (pe_op op_addP (pe_powK (r := 10000000000000) (by decide)) pe_int)) (pe_op op_addP (pe_op op_mulP pe_int (pv 5)) pe_int))) (pv 5)))
 (pss_one (ps_expr (pe_bmK K PySem.F.plainAttrs_list PySem.F.slot_list_append PySem.F.type_list_append mt_append (pv 6) (pa_cons (pe_tup (pa_cons (pe_op op_sub (pe_op op_mod (pe_ix (ix_K K) (pv 8) pe_int (by exact fun _ _ => rfl)) (pe_op op_addP (pv 4) pe_int)) pe_int) (pa_cons (pv 9) pa_nil))) pa_nil)))))))
 (pss_join (ps_if (pt_cmpR (op_eqK K hu) (pe_op op_mod (pe_ix (ix_K K) (pe_callN C_law_draws (hr.mono (by decide)) (by rfl) (pa_cons (pe_callN C_law_cell_at (hr.mono (by decide)) (by rfl) (pa_cons (pv 0) (pa_cons pe_int pa_nil))) (pa_cons pe_int (pa_cons pe_int pa_nil)))) pe_int (by exact fun _ _ => rfl)) pe_int) pe_int (nomark _))
 (pss_one (ps_for PassesOwn.never rfl (pi_listK K (pe_callN C_law_draws (hr.mono (by decide)) (by rfl) (pa_cons (pe_callN C_law_cell_at (hr.mono (by decide)) (by rfl) (pa_cons (pv 0) (pa_cons pe_int pa_nil))) (pa_cons pe_int (pa_cons (pe_powK (r := 1000000000) (by decide)) pa_nil))))) (pg_name (i := 10) sc_law.nd rfl (Or.inl rfl))
 (pss_one (ps_expr (pe_bmK K PySem.F.plainAttrs_list PySem.F.slot_list_append PySem.F.type_list_append mt_append (pv 6) (pa_cons (pe_tup (pa_cons (pe_op op_sub (pe_op op_mod (pv 10) (pe_op op_addP (pv 4) pe_int)) pe_int) (pa_cons (pe_op op_sub (pe_op op_addP (pv 2) (pe_op op_mod (pe_op op_fdiv (pe_op op_mulP (pv 10) (pe_powK (r := 10000000000000) (by decide))) pe_int) (pe_op op_addP (pe_op op_mulP pe_int (pv 5)) pe_int))) (pv 5)) pa_nil))) pa_nil))))))
 pss_nil)
 (pss_cons (ps_set (i := 11) sc_law.nd rfl (Or.inl rfl) (pe_callN C_grabs_of (hr.mono (by decide)) (by rfl) (pa_cons (pv 1) (pa_cons (pv 2) (pa_cons (pv 3) (pa_cons (pv 6) pa_nil))))))
 (pss_cons (ps_if (pt_not (pt_truthK K (pe_callN C_law_alike (hr.mono (by decide)) (by rfl) (pa_cons (pv 1) (pa_cons (pv 2) (pa_cons (pv 3) (pa_cons (pv 6) (pa_cons (pv 11) pa_nil))))))))
 (pss_one (ps_ret pe_bl))
 pss_nil)
 (pss_cons (ps_set (i := 12) sc_law.nd rfl (Or.inl rfl) (pe_tup (pa_cons (pv 2) (pa_cons (pv 3) pa_nil))))
 (pss_cons (ps_for PassesOwn.never rfl (pi_range1 (by rfl) T.z_range (pa_cons (pe_callB (call_lenK K) (by rfl) T.z_len bt_len (pa_cons (pv 6) pa_nil)) pa_nil)) (pg_name (i := 13) sc_law.nd rfl (Or.inl rfl))
 (pss_cons (ps_asg (pe_ix (ix_K K) (pv 6) (pv 13) (by exact fun _ _ => rfl)) (pg_tupK K 2 (pgs_cons (pg_name (i := 14) sc_law.nd rfl (Or.inl rfl)) (pgs_cons (pg_name (i := 9) sc_law.nd rfl (Or.inl rfl)) pgs_nil))))
 (pss_cons (ps_if (pt_not (pt_truthK K (pe_callN C_is_stand (hr.mono (by decide)) (by rfl) (pa_cons (pv 1) (pa_cons (pe_ix (ix_K K) (pe_ix (ix_K K) (pv 11) (pv 13) (by exact fun _ _ => rfl)) pe_int (by exact fun _ _ => rfl)) (pa_cons (pe_ix (ix_K K) (pe_ix (ix_K K) (pv 11) (pv 13) (by exact fun _ _ => rfl)) pe_int (by exact fun _ _ => rfl)) pa_nil))))))
 (pss_one (ps_ret pe_bl))
 pss_nil)
 (pss_cons (ps_if (pt_not (pt_truthK K (pe_callN C_law_a_far (hr.mono (by decide)) (by rfl) (pa_cons (pv 12) (pa_cons (pe_ix (ix_K K) (pv 11) (pv 13) (by exact fun _ _ => rfl)) (pa_cons (pv 14) pa_nil))))))
 (pss_one (ps_ret pe_bl))
 pss_nil)
 (pss_cons (ps_set (i := 15) sc_law.nd rfl (Or.inl rfl) (pe_tup (pa_cons (pv 9) (pa_cons (pe_callN C_turned (hr.mono (by decide)) (by rfl) (pa_cons (pv 1) (pa_cons (pe_ix (ix_K K) (pv 12) pe_int (by exact fun _ _ => rfl)) (pa_cons (pe_ix (ix_K K) (pv 12) pe_int (by exact fun _ _ => rfl)) (pa_cons (pv 9) pa_nil))))) pa_nil))))
 (pss_join (ps_if (PW.pt (pw_and (pt_cmpR (op_eqK K hu) (pv 14) (pe_negK (r := -1) (by decide)) (nomark _)) (pw_and1 (pt_cmpR (op_neK K hu) (pe_ix (ix_K K) (pv 11) (pv 13) (by exact fun _ _ => rfl)) (pv 15) (nomark _)))))
 (pss_one (ps_ret pe_bl))
 pss_nil)
 (pss_cons (ps_set (i := 16) sc_law.nd rfl (Or.inl rfl) (pe_ix (ix_K K) (pe_op op_addP (pe_lst (pa_cons (pe_ix (ix_K K) (pv 12) pe_int (by exact fun _ _ => rfl)) pa_nil)) (pe_ix (ix_K K) (pv 12) pe_int (by exact fun _ _ => rfl))) (pe_op op_addP (pv 14) pe_int) (by exact fun _ _ => rfl)))
 (pss_cons (ps_if (pt_cmpR (op_neK K hu) (pe_callN C_grabbed (hr.mono (by decide)) (by rfl) (pa_cons (pv 1) (pa_cons (pe_ix (ix_K K) (pv 12) pe_int (by exact fun _ _ => rfl)) (pa_cons (pe_ix (ix_K K) (pv 12) pe_int (by exact fun _ _ => rfl)) (pa_cons (pv 14) (pa_cons (pv 16) pa_nil)))))) (pv 12) (nomark _))
 (pss_one (ps_ret pe_bl))
 pss_nil)
 (pss_one (ps_set (i := 12) sc_law.nd rfl (Or.inl rfl) (pe_ix (ix_K K) (pv 11) (pv 13) (by exact fun _ _ => rfl))))))))))))
 (pss_one (ps_ret pe_bl)))))))))))), ?_⟩
    dsimp only [tSeq, tAsg, gName, tOp, tUn, tTest, tB, tAnd, tOr, tNot, tAndV, tOrV, tNotV, tIf, tIfS, tRet, tRetN, tDrop, tNext, tCons, tNil, tCB, tCall, tMenu, tComp, iZip2, iEnum, tNoIf, tTru, tJoin, cxOf_K, tLst, tTup, tSl, tPart, tNoPart, tBM, tBM0, tChain, tC, tFor_eq, gTup, gStar, gLst, gCons, gNil, gSub, iList, iRng1, iRng2, iRng3, iTup, iZip3, tWhile, tRev, tRaise, tCallS, tTry, tAug, tPar, tNever, ipI, List.append_nil]
    walk_at "st"
    refine ⟨a, ns, rfl, hS, fun t0 lp lw ps ws hd H1 ft0 N1 N2 npw e0 hT hSt => ?_⟩
    walk_at "st"
    refine ⟨_, _, rfl, SqT.of e0, rfl, _, _, rfl, _, _, rfl, _, _, rfl, rfl, ?_⟩
    have hn1 := hT.1
    have hn2 := hT.2.1
    have hp0 := hT.2.2
    walk_at "st"
    refine i_lenI (SqL.of N1.at_) ?_
    walk_at "st"
    refine i_sum (SqL.of N1.at_) ?_
    have hsum : 0 ≤ ps.sum := sum_nonneg hp0
    walk_at "st"
    refine i_mulI (cmul_l (by decide) (by decide)) ?_
    generalize ps.sum = sm0 at *
    walk_at "st"
    intro lrow hlrow
    have sa := same_upd (o := .lst []) hlrow
    have R0 : RSt (upd H1 lrow (.lst [])) lp lw lrow ps ws [] [] := ⟨sa _ _ N1.at_, sa _ _ N2.at_, upd_same, .nil⟩
    have npr : lp ≠ lrow := ne_of_none N1.at_ hlrow
    have nwr : lw ≠ lrow := ne_of_none N2.at_ hlrow
    have sH3 := N1.sm.trans sa
    have frow : H lrow = none := N1.sm.free hlrow
    generalize upd H1 lrow (.lst []) = H3 at *
    clear sa hlrow N1 N2 e0 ft0
    walk_at "st"
    refine ⟨a, ns, 2, rfl, sH3.seq hS, by decide, fun c2 => ?_⟩
    walk_at "st"
    intro g2 hg2
    walk_at "st"
    refine i_slMid ((same_upd hg2).seq (sH3.seq hS)) (by decide) (by decide) (fun g3 hg3 => ?_)
    generalize hcs : (ns.drop (3 : Int).toNat).take ((18 : Int).toNat - (3 : Int).toNat) = cs at *
    have hcl : cs.length ≤ 15 := by rw [← hcs, List.length_take]; exact Nat.min_le_left _ _
    refine i_addL (a := g2) (b := g3) (xs := [.int c2]) (ys := iL cs) (same_upd hg3 _ _ upd_same) upd_same (szl (by simp [iL]; omega)) (fun lc hlc => ?_)
    have s4 : Same H3 _ := (same_upd (o := .lst [.int c2]) hg2).trans ((same_upd (o := .lst (iL cs)) hg3).trans (same_upd (o := .lst ([.int c2] ++ iL cs)) hlc))
    have e4 : upd (upd (upd H3 g2 (.lst [.int c2])) g3 (.lst (iL cs))) lc (.lst ([.int c2] ++ iL cs)) lc = some (.lst (iL (c2 :: cs))) := by rw [upd_same]; rfl
    have nlcr : lc ≠ lrow := (ne_of_none ((same_upd (o := .lst [.int c2]) hg2).trans (same_upd (o := .lst (iL cs)) hg3) _ _ R0.r) hlc).symm
    generalize upd (upd (upd H3 g2 (.lst [.int c2])) g3 (.lst (iL cs))) lc (.lst ([.int c2] ++ iL cs)) = H4 at *
    have R4 := R0.more s4
    have sH4 := sH3.trans s4
    clear R0 s4 hg2 hg3 hlc sH3
    walk_at "st"
    refine ⟨⟨_, SqL.of e4⟩, lp_ints (ns := c2 :: cs) (fun i σ H5 => ∃ (u7 u8 u9 : Option V) (ts : List Addr) (gs : List (Int × Int)), σ = [some (.ref a), some (.ref lp), some (.int hd), some (.ref lw), some (.int ps.length), some (.int (2 * sm0 + 3)), some (.ref lrow), u7, u8, u9, none, none, none, none, none, none, none] ∧ RSt H5 lp lw lrow ps ws ts gs ∧ H5 lc = some (.lst (iL (c2 :: cs))) ∧ okGr ps.length gs ∧ gs.length = i ∧ Same H H5) ?_ ?_ ?_ ?_⟩
    · exact ⟨_, _, _, [], [], rfl, R4, e4, fun g hg => (by simp at hg), rfl, sH4⟩
    · rintro i σ H5 _ ⟨u7, u8, u9, ts, gs, rfl, R5, e5, _⟩
      exact SqL.of e5
    · rintro i cell σ H5 hx ⟨u7, u8, u9, ts, gs, rfl, R5, e5, hok, hgl, sH5⟩
      have hi20 : i < 20 := by have := (List.getElem?_eq_some_iff.mp hx).1; simp at this; omega
      have htl : ts.length = gs.length := R5.m.length
      walk_at "st"
      refine ⟨cell, 3, 1000000000, rfl, by decide, by decide, by decide, by decide, fun lq H6 pk N6 l6 b6 => ?_⟩
      have R6 := R5.more N6.sm
      have q6 := N6.at_
      have sH6 := sH5.trans N6.sm
      have e6 := N6.sm _ _ e5
      clear R5 N6 e5 sH5
      walk_at "st"
      refine i_ixL (SqL.of q6) (by omega) (by omega) (fun v1 _ _ => ?_)
      walk_at "st"
      refine i_mulI (cmul_r (by decide) (by decide)) ?_
      walk_at "st"
      refine i_mulI (cmul_l (by decide) (by decide)) ?_
      walk_at "st"
      generalize hd + v1 * (10000000000000 + 1) % (2 * (2 * sm0 + 3) + 1) - (2 * sm0 + 3) = pl at *
      refine ⟨.inl ⟨rfl, _, SqL.of R6.r⟩, ?_⟩
      walk_at "st"
      refine i_ixL (SqL.of q6) (by omega) (by omega) (fun v0 _ m0 => ?_)
      walk_at "st"
      have r1 := Int.emod_nonneg v0 (show (ps.length : Int) + 1 ≠ 0 by omega)
      have r2 := Int.emod_lt_of_pos v0 (show (0 : Int) < (ps.length : Int) + 1 by omega)
      intro t6 ht6
      have s7 := same_upd (o := .tup [.int (v0 % ((ps.length : Int) + 1) - 1), .int pl]) ht6
      have e7 : upd H6 t6 (.tup [.int (v0 % ((ps.length : Int) + 1) - 1), .int pl]) t6 = some (.tup [.int (v0 % ((ps.length : Int) + 1) - 1), .int pl]) := upd_same
      generalize upd H6 t6 (.tup [.int (v0 % ((ps.length : Int) + 1) - 1), .int pl]) = H7 at *
      have R7 := R6.more s7
      walk_at "st"
      refine i_app R7.r (szlt (by simp; omega)) ?_
      exact ⟨_, _, _, _, gs ++ [(v0 % ((ps.length : Int) + 1) - 1, pl)], rfl, R7.push npr nwr e7, by rw [upd_ne nlcr]; exact s7 _ _ e6, okGr_snoc hok ⟨by simp only; omega, by simp only; omega⟩, by simp; omega, fun b o e => by rw [upd_ne (ne_of_none e frow)]; exact s7 _ _ (sH6 b o e)⟩
    rintro σ H5 ⟨u7, u8, u9, ts, gs, rfl, R5, e5, hok, hgl, sH5⟩
    have hgl2 : gs.length ≤ 16 := by simp at hgl; omega
    clear e5 e4 R4 sH4 hgl nlcr
    walk_at "st"
    refine ⟨fun σ H6 => ∃ (u7 u8 u9 u10 : Option V) (ts : List Addr) (gs : List (Int × Int)), σ = [some (.ref a), some (.ref lp), some (.int hd), some (.ref lw), some (.int ps.length), some (.int (2 * sm0 + 3)), some (.ref lrow), u7, u8, u9, u10, none, none, none, none, none, none] ∧ RSt H6 lp lw lrow ps ws ts gs ∧ okGr ps.length gs ∧ gs.length ≤ 266, ?_, ?_⟩
    · walk_at "st"
      refine ⟨a, ns, 2, rfl, sH5.seq hS, by decide, fun c2 => ?_⟩
      walk_at "st"
      refine ⟨c2, 1, 1000, rfl, by decide, by decide, by decide, by decide, fun lq H6 pk N6 l6 b6 => ?_⟩
      walk_at "st"
      refine i_ixL (SqL.of N6.at_) (by omega) (by omega) (fun v0 _ _ => ?_)
      have R6 := R5.more N6.sm
      have sH6 := sH5.trans N6.sm
      walk_at "st"
      refine i_if (fun _ => ?_) (fun _ => ?_)
      · walk_at "st"
        refine ⟨a, ns, 3, rfl, sH6.seq hS, by decide, fun c3 => ?_⟩
        walk_at "st"
        refine ⟨c3, 250, 1000000000, rfl, by decide, by decide, by decide, by decide, fun lz H7 pz N7 l7 b7 => ?_⟩
        have R7 := R6.more N7.sm
        have nlz : lz ≠ lrow := fun z => by have := N7.fr; rw [z, R6.r] at this; cases this
        walk_at "st"
        refine ⟨⟨_, SqL.of N7.at_⟩, lp_ints (ns := pz) (fun i σ H8 => ∃ (u10 : Option V) (ts : List Addr) (gs2 : List (Int × Int)), σ = [some (.ref a), some (.ref lp), some (.int hd), some (.ref lw), some (.int ps.length), some (.int (2 * sm0 + 3)), some (.ref lrow), u7, u8, u9, u10, none, none, none, none, none, none] ∧ RSt H8 lp lw lrow ps ws ts gs2 ∧ H8 lz = some (.lst (iL pz)) ∧ okGr ps.length gs2 ∧ gs2.length = gs.length + i) ?_ ?_ ?_ ?_⟩
        · exact ⟨_, _, _, rfl, R7, N7.at_, hok, rfl⟩
        · rintro i σ H8 _ ⟨u10, ts, gs2, rfl, R8, e8, _⟩
          exact SqL.of e8
        · rintro i pick σ H8 hx ⟨u10, ts, gs2, rfl, R8, e8, hok8, hl8⟩
          have hi : i < 250 := by have := (List.getElem?_eq_some_iff.mp hx).1; omega
          have htl : ts.length = gs2.length := R8.m.length
          walk_at "st"
          refine ⟨.inl ⟨rfl, _, SqL.of R8.r⟩, ?_⟩
          walk_at "st"
          refine i_mulI (cmul_r (by decide) (by decide)) ?_
          walk_at "st"
          refine i_mulI (cmul_l (by decide) (by decide)) ?_
          walk_at "st"
          have r1 := Int.emod_nonneg pick (show (ps.length : Int) + 1 ≠ 0 by omega)
          have r2 := Int.emod_lt_of_pos pick (show (0 : Int) < (ps.length : Int) + 1 by omega)
          intro t6 ht6
          generalize hpl : hd + pick * 10000000000000 / 13 % (2 * (2 * sm0 + 3) + 1) - (2 * sm0 + 3) = pl at *
          have s7 := same_upd (o := .tup [.int (pick % ((ps.length : Int) + 1) - 1), .int pl]) ht6
          have e7 : upd H8 t6 (.tup [.int (pick % ((ps.length : Int) + 1) - 1), .int pl]) t6 = some (.tup [.int (pick % ((ps.length : Int) + 1) - 1), .int pl]) := upd_same
          generalize upd H8 t6 (.tup [.int (pick % ((ps.length : Int) + 1) - 1), .int pl]) = H9 at *
          have R9 := R8.more s7
          walk_at "st"
          refine i_app R9.r (szlt (by simp; omega)) ?_
          exact ⟨_, _, gs2 ++ [(pick % ((ps.length : Int) + 1) - 1, pl)], rfl, R9.push npr nwr e7, by rw [upd_ne nlz]; exact s7 _ _ e8, okGr_snoc hok8 ⟨by simp only; omega, by simp only; omega⟩, by simp; omega⟩
        · rintro σ H8 ⟨u10, ts, gs2, rfl, R8, e8, hok8, hl8⟩
          exact ⟨_, _, _, _, ts, gs2, rfl, R8, hok8, by omega⟩
      · exact ⟨_, _, _, _, ts, gs, rfl, R6, hok, by omega⟩
    clear R5 hok hgl2 sH5
    rintro σ H6 ⟨u7, u8, u9, u10, ts, gs, rfl, R6, hok, hgl⟩
    have htl : ts.length = gs.length := R6.m.length
    walk_at "st"
    refine ⟨lp, lw, lrow, ps, ws, hd, ts, gs, rfl, R6.p, R6.w, R6.r, R6.m, by omega, hT, hSt, hok, fun lf us H7 s7 _ e7 hP7 => ?_⟩
    replace hP7 : Paired (StAt H7) us _ := Paired.mapP hP7 fun _ _ z => z.at
    have R7 := R6.more s7
    clear R6 s7
    walk_at "st"
    refine ⟨lp, lw, lrow, lf, ps, ws, hd, ts, us, gs, rfl, R7.p, R7.w, R7.r, R7.m, e7, hP7, hT, hSt, hok, by omega, fun H8 s8 => ?_⟩
    have R8 := R7.more s8
    have e8 := s8 _ _ e7
    have hP8 : Paired (StAt H8) us _ := Paired.mapP hP7 fun _ _ z => z.more s8
    clear R7 s8 e7 hP7
    walk_at "st"
    intro th hth
    have s9 := same_upd (o := .tup [.int hd, .ref lw]) hth
    have h9 : StAt (upd H8 th (.tup [.int hd, .ref lw])) th (hd :: ws) := ⟨lw, hd, ws, rfl, upd_same, s9 _ _ R8.w⟩
    generalize upd H8 th (.tup [.int hd, .ref lw]) = H9 at *
    have R9 := R8.more s9
    have e9 := s9 _ _ e8
    have hP9 : Paired (StAt H9) us _ := Paired.mapP hP8 fun _ _ z => z.more s9
    have hul : us.length = gs.length := by rw [hP9.length, gRun_len]
    clear R8 s9 e8 hP8
    walk_at "st"
    refine i_len (SqL.of R9.r) ?_
    walk_at "st"
    refine ⟨by omega, by simp; omega, lp_range (fun i σ H10 => ∃ (u7 u8 u9 u10 u13 u14 u15 u16 : Option V) (there : Addr), σ = [some (.ref a), some (.ref lp), some (.int hd), some (.ref lw), some (.int ps.length), some (.int (2 * sm0 + 3)), some (.ref lrow), u7, u8, u9, u10, some (.ref lf), some (.ref there), u13, u14, u15, u16] ∧ Same H9 H10 ∧ StAt H10 there (gEnd ps (hd :: ws) (gs.take i))) ?_ ?_ ?_⟩
    · exact ⟨u7, u8, u9, u10, none, none, none, none, th, rfl, Same.refl _, by simpa [gEnd] using h9⟩
    · clear h9
      rintro i σ H10 hi ⟨u7, u8, u9, u10, u13, u14, u15, u16, there, rfl, s10, hSt10⟩
      have hi2 : i < gs.length := by simp at hi; omega
      have R10 := R9.more s10
      have e10 := s10 _ _ e9
      have hP10 : Paired (StAt H10) us _ := Paired.mapP hP9 fun _ _ z => z.more s10
      obtain ⟨t, hti⟩ : ∃ t, ts[i]? = some t := ⟨_, List.getElem?_eq_getElem (by omega)⟩
      obtain ⟨g, hgi, hTg⟩ := paired_getL R10.m hti
      have hg := hok g (List.mem_of_getElem? hgi)
      obtain ⟨u, hui⟩ : ∃ u, us[i]? = some u := ⟨_, List.getElem?_eq_getElem (by omega)⟩
      obtain ⟨G, hGi, hSu⟩ := paired_getL hP10 hui
      rw [gRun_get ps gs _ i g hgi] at hGi
      obtain ⟨hh, wh, hE, hsh⟩ := gEnd_stand hT (gs.take i) (hd :: ws) (fun x hx => hok x (List.mem_of_mem_take hx)) ⟨hd, ws, rfl, hSt⟩
      have hnx : gEnd ps (hd :: ws) (gs.take (i + 1)) = gAll ps (gEnd ps (hd :: ws) (gs.take i)) (g.1 + 1).toNat g.2 := by
        rw [take_snoc_get hgi, gEnd_app]; rfl
      rw [hnx]
      rw [hE] at hGi hSt10 ⊢
      have hGi := Option.some.inj hGi
      subst hGi
      have hLl : (hh :: wh).length = ps.length + 1 := by simp [hsh.1]
      have hm : (g.1 + 1).toNat ≤ ps.length := by omega
      have hGl := gAll_len (c := g.2) hLl hm
      obtain ⟨gh, gt, hG⟩ := gAll_cons (c := g.2) hLl hm
      have hGs := gAll_stand hLl hm hp0 hG
      have uP : ∀ j f gg, (farL (hh :: wh) (gAll ps (hh :: wh) (g.1 + 1).toNat g.2))[j]? = some f → (farL (hh :: wh) (gAll ps (hh :: wh) (g.1 + 1).toNat g.2))[j + 1]? = some gg → (g.1 + 1).toNat ≤ j → gg ≤ f := fun j f gg h1 h2 hj => far_up hsh hp0 hm hj h1 h2
      have dP : ∀ j f gg, (farL (hh :: wh) (gAll ps (hh :: wh) (g.1 + 1).toNat g.2))[j]? = some f → (farL (hh :: wh) (gAll ps (hh :: wh) (g.1 + 1).toNat g.2))[j + 1]? = some gg → j < (g.1 + 1).toNat → f ≤ gg := fun j f gg h1 h2 hj => far_down hsh hp0 hm hj h1 h2
      have hfl : (farL (hh :: wh) (gAll ps (hh :: wh) (g.1 + 1).toNat g.2)).length = ps.length + 1 := by unfold farL; rw [List.length_zipWith]; omega
      have f1 : ((farL (hh :: wh) (gAll ps (hh :: wh) (g.1 + 1).toNat g.2)).drop (g.1 + 1).toNat).Pairwise (· ≥ ·) := falls fun j f gg h1 h2 => by
        rw [List.getElem?_drop] at h1 h2
        exact uP _ f gg h1 (by rw [← h2]; congr 1) (by omega)
      have f2 : (((farL (hh :: wh) (gAll ps (hh :: wh) (g.1 + 1).toNat g.2)).take (g.1 + 2).toNat).reverse).Pairwise (· ≥ ·) := falls fun j f gg h1 h2 => by
        have hlt : ((farL (hh :: wh) (gAll ps (hh :: wh) (g.1 + 1).toNat g.2)).take (g.1 + 2).toNat).length = (g.1 + 2).toNat := by rw [List.length_take, hfl]; omega
        have hj : j + 1 < (g.1 + 2).toNat := by
          have := (List.getElem?_eq_some_iff.mp h2).1
          rw [List.length_reverse, hlt] at this
          exact this
        rw [List.getElem?_reverse (by omega), hlt, List.getElem?_take, if_pos (by omega)] at h1 h2
        exact dP ((g.1 + 2).toNat - 1 - (j + 1)) gg f h2 (by rw [← h1]; congr 1; omega) (by omega)
      clear uP dP
      walk_at "st"
      refine i_ixN (SqL.of R10.r) (by omega) (v := .ref t) (by rw [List.getElem?_map, show (0 + (i : Int)).toNat = i by omega, hti]; rfl) ?_
      walk_at "st"
      refine ⟨_, _, rfl, SqT.of hTg, rfl, _, _, rfl, _, _, rfl, rfl, ?_⟩
      have ixf : ∀ {HH : Hp} {Q' : VK}, Same H10 HH → Q' (.ref u) HH → rIxP K (.ref lf) (.int (0 + (i : Int))) HH Q' := fun sh q' => i_ixN (SqL.of (sh _ _ e10)) (by omega) (v := .ref u) (by rw [List.getElem?_map, show (0 + (i : Int)).toNat = i by omega, hui]; rfl) q'
      obtain ⟨lu, gh2, gt2, hG2, hu1, hu2⟩ := id hSu
      rw [hG] at hG2
      cases hG2
      obtain ⟨lh, hh2, wh2, hE2, hh1, hw1⟩ := id hSt10
      cases hE2
      walk_at "st"
      refine ixf (Same.refl _) ?_
      walk_at "st"
      refine i_ixT (SqT.of hu1) (by decide) (v := .int gh) rfl ?_
      walk_at "st"
      refine ixf (Same.refl _) ?_
      walk_at "st"
      refine i_ixT (SqT.of hu1) (by decide) (v := .ref lu) rfl ?_
      walk_at "st"
      refine ⟨lp, lu, ps, gt, gh, rfl, SqL.of R10.p, SqL.of hu2, hT, fun r H11 hr11 s11 => ?_⟩
      rw [hr11.mpr hGs]
      walk_at "st"
      refine ixf s11 ?_
      walk_at "st"
      refine ⟨there, u, _, _, g.1, rfl, hSt10.more s11, hSu.more s11, hGl, by omega, hg.1, by omega, f1, f2, fun H12 s12 => ?_⟩
      have S12 := s11.trans s12
      clear s11 s12 f1 f2
      walk_at "st"
      refine i_ixT (SqT.of (S12 _ _ hh1)) (by decide) (v := .int hh) rfl ?_
      walk_at "st"
      refine i_ixT (SqT.of (S12 _ _ hh1)) (by decide) (v := .ref lh) rfl ?_
      walk_at "st"
      refine ⟨lp, lh, ps, wh, hh, g.2, rfl, SqL.of (S12 _ _ R10.p), SqL.of (S12 _ _ hw1), hT, hsh, fun ld H13 N13 => ?_⟩
      walk_at "st"
      intro td htd
      have s14 := same_upd (o := .tup [.int g.2, .ref ld]) htd
      have e14 : StAt (upd H13 td (.tup [.int g.2, .ref ld])) td (g.2 :: dragAll ps wh g.2) := ⟨ld, g.2, _, rfl, upd_same, s14 _ _ N13.at_⟩
      have S14 := S12.trans (N13.sm.trans s14)
      generalize upd H13 td (.tup [.int g.2, .ref ld]) = H14 at *
      clear S12 N13 s14
      walk_at "st"
      refine ⟨fun σ H15 => σ = [some (.ref a), some (.ref lp), some (.int hd), some (.ref lw), some (.int ps.length), some (.int (2 * sm0 + 3)), some (.ref lrow), u7, u8, some (.int g.2), u10, some (.ref lf), some (.ref there), some (.int (0 + (i : Int))), some (.int g.1), some (.ref td), u16] ∧ H14 = H15, ?_, ?_⟩
      · walk_at "st"
        refine i_if (fun g1 => ?_) (fun g1 => ?_)
        · walk_at "st"
          refine ixf S14 ?_
          walk_at "st"
          have hG0 : gAll ps (hh :: wh) (g.1 + 1).toNat g.2 = g.2 :: dragAll ps wh g.2 := by
            rw [g1]
            simp [gAll, dragAll]
          refine i_neSame _ (pd_std (hSu.more S14)) (by rw [hG0]; exact pd_std e14) ?_
          walk_at "st"
          exact ⟨rfl, rfl⟩
        · walk_at "st"
          exact ⟨rfl, rfl⟩
      rintro σ H15 ⟨rfl, rfl⟩
      walk_at "st"
      refine i_ixT (SqT.of (S14 _ _ hh1)) (by decide) (v := .int hh) rfl ?_
      walk_at "st"
      intro g5 hg5
      walk_at "st"
      refine i_ixT (SqT.of (same_upd hg5 _ _ (S14 _ _ hh1))) (by decide) (v := .ref lh) rfl ?_
      walk_at "st"
      refine i_addL (a := g5) (b := lh) (xs := [.int hh]) (ys := iL wh) upd_same (same_upd hg5 _ _ (S14 _ _ hw1)) (szl (by simp [iL] at hLl ⊢; omega)) (fun g6 hg6 => ?_)
      have s15 : Same H14 _ := (same_upd (o := .lst [.int hh]) hg5).trans (same_upd (o := .lst ([.int hh] ++ iL wh)) hg6)
      have e15 : upd (upd H14 g5 (.lst [.int hh])) g6 (.lst ([.int hh] ++ iL wh)) g6 = some (.lst (iL (hh :: wh))) := by rw [upd_same]; rfl
      generalize upd (upd H14 g5 (.lst [.int hh])) g6 (.lst ([.int hh] ++ iL wh)) = H15 at *
      have S15 := S14.trans s15
      obtain ⟨v, hv⟩ : ∃ v, (hh :: wh)[(g.1 + 1).toNat]? = some v := ⟨_, List.getElem?_eq_getElem (by omega)⟩
      walk_at "st"
      refine i_ixN (SqL.of e15) (by omega) (v := .int v) (by rw [List.getElem?_map, hv]; rfl) ?_
      walk_at "st"
      refine i_ixT (SqT.of (S15 _ _ hh1)) (by decide) (v := .int hh) rfl ?_
      walk_at "st"
      refine i_ixT (SqT.of (S15 _ _ hh1)) (by decide) (v := .ref lh) rfl ?_
      walk_at "st"
      refine ⟨lp, lh, ps, wh, hh, g.1, v, rfl, S15 _ _ R10.p, S15 _ _ hw1, hT, hsh, hg.1, hg.2, fun tb H16 s16 hN => ?_⟩
      rw [gAll_stay hsh hm hv] at hN
      walk_at "st"
      have S16 := S15.trans s16
      refine i_neSame _ (pd_std hN.at) (pd_std (hSt10.more S16)) ?_
      walk_at "st"
      refine ixf S16 ?_
      walk_at "st"
      exact ⟨_, _, _, _, _, _, _, _, u, rfl, s10.trans S16, hSu.more S16⟩
    · rintro σ H10 ⟨u7, u8, u9, u10, u13, u14, u15, u16, there, rfl, s10, hSt10⟩
      walk_at "st"
      exact k _
end
theorem all_mk {l : PySem.W.OpenLaw} {w : World} {K : PySem.W.Frag} {h : Heap} {mg : Str → Option Value} {fa : Addr} (X : K.In h) (G : h.Ns mainGlobals mg) (hfa : mg "law" = some (.ref fa))
    {f_law_cell_at : Addr} {od_law_cell_at an_law_cell_at : Option Addr} {sl_law_cell_at : Array (Option Value)} {oc_law_cell_at kV_law_cell_at dc_law_cell_at pm_law_cell_at cd_law_cell_at ct_law_cell_at : Value}
    {f_law_draws : Addr} {od_law_draws an_law_draws : Option Addr} {sl_law_draws : Array (Option Value)} {oc_law_draws kV_law_draws dc_law_draws pm_law_draws cd_law_draws ct_law_draws : Value}
    {f_is_train : Addr} {od_is_train an_is_train : Option Addr} {sl_is_train : Array (Option Value)} {oc_is_train kV_is_train dc_is_train pm_is_train cd_is_train ct_is_train : Value}
    {f_refuse_no_train : Addr} {od_refuse_no_train an_refuse_no_train : Option Addr} {sl_refuse_no_train : Array (Option Value)} {oc_refuse_no_train kV_refuse_no_train dc_refuse_no_train pm_refuse_no_train cd_refuse_no_train ct_refuse_no_train : Value}
    {f_keeps_plays : Addr} {od_keeps_plays an_keeps_plays : Option Addr} {sl_keeps_plays : Array (Option Value)} {oc_keeps_plays kV_keeps_plays dc_keeps_plays pm_keeps_plays cd_keeps_plays ct_keeps_plays : Value}
    {f_is_stand : Addr} {od_is_stand an_is_stand : Option Addr} {sl_is_stand : Array (Option Value)} {oc_is_stand kV_is_stand dc_is_stand pm_is_stand cd_is_stand ct_is_stand : Value}
    {f_refuse_no_stand : Addr} {od_refuse_no_stand an_refuse_no_stand : Option Addr} {sl_refuse_no_stand : Array (Option Value)} {oc_refuse_no_stand kV_refuse_no_stand dc_refuse_no_stand pm_refuse_no_stand cd_refuse_no_stand ct_refuse_no_stand : Value}
    {f_dragged : Addr} {od_dragged an_dragged : Option Addr} {sl_dragged : Array (Option Value)} {oc_dragged kV_dragged dc_dragged pm_dragged cd_dragged ct_dragged : Value}
    {f_all_dragged : Addr} {od_all_dragged an_all_dragged : Option Addr} {sl_all_dragged : Array (Option Value)} {oc_all_dragged kV_all_dragged dc_all_dragged pm_all_dragged cd_all_dragged ct_all_dragged : Value}
    {f_turned : Addr} {od_turned an_turned : Option Addr} {sl_turned : Array (Option Value)} {oc_turned kV_turned dc_turned pm_turned cd_turned ct_turned : Value}
    {f_moved : Addr} {od_moved an_moved : Option Addr} {sl_moved : Array (Option Value)} {oc_moved kV_moved dc_moved pm_moved cd_moved ct_moved : Value}
    {f_refuse_no_piece : Addr} {od_refuse_no_piece an_refuse_no_piece : Option Addr} {sl_refuse_no_piece : Array (Option Value)} {oc_refuse_no_piece kV_refuse_no_piece dc_refuse_no_piece pm_refuse_no_piece cd_refuse_no_piece ct_refuse_no_piece : Value}
    {f_grabs_of : Addr} {od_grabs_of an_grabs_of : Option Addr} {sl_grabs_of : Array (Option Value)} {oc_grabs_of kV_grabs_of dc_grabs_of pm_grabs_of cd_grabs_of ct_grabs_of : Value}
    {f_grabbed : Addr} {od_grabbed an_grabbed : Option Addr} {sl_grabbed : Array (Option Value)} {oc_grabbed kV_grabbed dc_grabbed pm_grabbed cd_grabbed ct_grabbed : Value}
    {f_law_train : Addr} {od_law_train an_law_train : Option Addr} {sl_law_train : Array (Option Value)} {oc_law_train kV_law_train dc_law_train pm_law_train cd_law_train ct_law_train : Value}
    {f_law_a_about : Addr} {od_law_a_about an_law_a_about : Option Addr} {sl_law_a_about : Array (Option Value)} {oc_law_a_about kV_law_a_about dc_law_a_about pm_law_a_about cd_law_a_about ct_law_a_about : Value}
    {f_law_a_far : Addr} {od_law_a_far an_law_a_far : Option Addr} {sl_law_a_far : Array (Option Value)} {oc_law_a_far kV_law_a_far dc_law_a_far pm_law_a_far cd_law_a_far ct_law_a_far : Value}
    {f_law_alike : Addr} {od_law_alike an_law_alike : Option Addr} {sl_law_alike : Array (Option Value)} {oc_law_alike kV_law_alike dc_law_alike pm_law_alike cd_law_alike ct_law_alike : Value}
    {f_law : Addr} {od_law an_law : Option Addr} {sl_law : Array (Option Value)} {oc_law kV_law dc_law pm_law cd_law ct_law : Value}
    {t_MOST_PLAYS : Tok}
    (a_law_cell_at : PySem.W.nsIn K mainGlobals "_law_cell_at" = some (some (.ref f_law_cell_at))) (l_law_cell_at : K.lookup f_law_cell_at = some ⟨oc_law_cell_at, od_law_cell_at, .func (PySem.W.fnOf "_law_cell_at" "_law_cell_at" (defArgs s_law_cell_at) (defBody s_law_cell_at) (defScope s_law_cell_at) .none kV_law_cell_at dc_law_cell_at pm_law_cell_at an_law_cell_at cd_law_cell_at ct_law_cell_at), sl_law_cell_at⟩) (c_law_cell_at : PySem.W.codeIn K cd_law_cell_at "_law_cell_at" = true) (k_law_cell_at : PySem.W.keepIn K (.ref f_law_cell_at) = true)
    (a_law_draws : PySem.W.nsIn K mainGlobals "_law_draws" = some (some (.ref f_law_draws))) (l_law_draws : K.lookup f_law_draws = some ⟨oc_law_draws, od_law_draws, .func (PySem.W.fnOf "_law_draws" "_law_draws" (defArgs s_law_draws) (defBody s_law_draws) (defScope s_law_draws) .none kV_law_draws dc_law_draws pm_law_draws an_law_draws cd_law_draws ct_law_draws), sl_law_draws⟩) (c_law_draws : PySem.W.codeIn K cd_law_draws "_law_draws" = true) (k_law_draws : PySem.W.keepIn K (.ref f_law_draws) = true)
    (a_is_train : PySem.W.nsIn K mainGlobals "is_train" = some (some (.ref f_is_train))) (l_is_train : K.lookup f_is_train = some ⟨oc_is_train, od_is_train, .func (PySem.W.fnOf "is_train" "is_train" (defArgs s_is_train) (defBody s_is_train) (defScope s_is_train) .none kV_is_train dc_is_train pm_is_train an_is_train cd_is_train ct_is_train), sl_is_train⟩) (c_is_train : PySem.W.codeIn K cd_is_train "is_train" = true) (k_is_train : PySem.W.keepIn K (.ref f_is_train) = true)
    (a_refuse_no_train : PySem.W.nsIn K mainGlobals "refuse_no_train" = some (some (.ref f_refuse_no_train))) (l_refuse_no_train : K.lookup f_refuse_no_train = some ⟨oc_refuse_no_train, od_refuse_no_train, .func (PySem.W.fnOf "refuse_no_train" "refuse_no_train" (defArgs s_refuse_no_train) (defBody s_refuse_no_train) (defScope s_refuse_no_train) .none kV_refuse_no_train dc_refuse_no_train pm_refuse_no_train an_refuse_no_train cd_refuse_no_train ct_refuse_no_train), sl_refuse_no_train⟩) (c_refuse_no_train : PySem.W.codeIn K cd_refuse_no_train "refuse_no_train" = true) (k_refuse_no_train : PySem.W.keepIn K (.ref f_refuse_no_train) = true)
    (a_keeps_plays : PySem.W.nsIn K mainGlobals "keeps_plays" = some (some (.ref f_keeps_plays))) (l_keeps_plays : K.lookup f_keeps_plays = some ⟨oc_keeps_plays, od_keeps_plays, .func (PySem.W.fnOf "keeps_plays" "keeps_plays" (defArgs s_keeps_plays) (defBody s_keeps_plays) (defScope s_keeps_plays) .none kV_keeps_plays dc_keeps_plays pm_keeps_plays an_keeps_plays cd_keeps_plays ct_keeps_plays), sl_keeps_plays⟩) (c_keeps_plays : PySem.W.codeIn K cd_keeps_plays "keeps_plays" = true) (k_keeps_plays : PySem.W.keepIn K (.ref f_keeps_plays) = true)
    (a_is_stand : PySem.W.nsIn K mainGlobals "is_stand" = some (some (.ref f_is_stand))) (l_is_stand : K.lookup f_is_stand = some ⟨oc_is_stand, od_is_stand, .func (PySem.W.fnOf "is_stand" "is_stand" (defArgs s_is_stand) (defBody s_is_stand) (defScope s_is_stand) .none kV_is_stand dc_is_stand pm_is_stand an_is_stand cd_is_stand ct_is_stand), sl_is_stand⟩) (c_is_stand : PySem.W.codeIn K cd_is_stand "is_stand" = true) (k_is_stand : PySem.W.keepIn K (.ref f_is_stand) = true)
    (a_refuse_no_stand : PySem.W.nsIn K mainGlobals "refuse_no_stand" = some (some (.ref f_refuse_no_stand))) (l_refuse_no_stand : K.lookup f_refuse_no_stand = some ⟨oc_refuse_no_stand, od_refuse_no_stand, .func (PySem.W.fnOf "refuse_no_stand" "refuse_no_stand" (defArgs s_refuse_no_stand) (defBody s_refuse_no_stand) (defScope s_refuse_no_stand) .none kV_refuse_no_stand dc_refuse_no_stand pm_refuse_no_stand an_refuse_no_stand cd_refuse_no_stand ct_refuse_no_stand), sl_refuse_no_stand⟩) (c_refuse_no_stand : PySem.W.codeIn K cd_refuse_no_stand "refuse_no_stand" = true) (k_refuse_no_stand : PySem.W.keepIn K (.ref f_refuse_no_stand) = true)
    (a_dragged : PySem.W.nsIn K mainGlobals "dragged" = some (some (.ref f_dragged))) (l_dragged : K.lookup f_dragged = some ⟨oc_dragged, od_dragged, .func (PySem.W.fnOf "dragged" "dragged" (defArgs s_dragged) (defBody s_dragged) (defScope s_dragged) .none kV_dragged dc_dragged pm_dragged an_dragged cd_dragged ct_dragged), sl_dragged⟩) (c_dragged : PySem.W.codeIn K cd_dragged "dragged" = true) (k_dragged : PySem.W.keepIn K (.ref f_dragged) = true)
    (a_all_dragged : PySem.W.nsIn K mainGlobals "all_dragged" = some (some (.ref f_all_dragged))) (l_all_dragged : K.lookup f_all_dragged = some ⟨oc_all_dragged, od_all_dragged, .func (PySem.W.fnOf "all_dragged" "all_dragged" (defArgs s_all_dragged) (defBody s_all_dragged) (defScope s_all_dragged) .none kV_all_dragged dc_all_dragged pm_all_dragged an_all_dragged cd_all_dragged ct_all_dragged), sl_all_dragged⟩) (c_all_dragged : PySem.W.codeIn K cd_all_dragged "all_dragged" = true) (k_all_dragged : PySem.W.keepIn K (.ref f_all_dragged) = true)
    (a_turned : PySem.W.nsIn K mainGlobals "turned" = some (some (.ref f_turned))) (l_turned : K.lookup f_turned = some ⟨oc_turned, od_turned, .func (PySem.W.fnOf "turned" "turned" (defArgs s_turned) (defBody s_turned) (defScope s_turned) .none kV_turned dc_turned pm_turned an_turned cd_turned ct_turned), sl_turned⟩) (c_turned : PySem.W.codeIn K cd_turned "turned" = true) (k_turned : PySem.W.keepIn K (.ref f_turned) = true)
    (a_moved : PySem.W.nsIn K mainGlobals "moved" = some (some (.ref f_moved))) (l_moved : K.lookup f_moved = some ⟨oc_moved, od_moved, .func (PySem.W.fnOf "moved" "moved" (defArgs s_moved) (defBody s_moved) (defScope s_moved) .none kV_moved dc_moved pm_moved an_moved cd_moved ct_moved), sl_moved⟩) (c_moved : PySem.W.codeIn K cd_moved "moved" = true) (k_moved : PySem.W.keepIn K (.ref f_moved) = true)
    (a_refuse_no_piece : PySem.W.nsIn K mainGlobals "refuse_no_piece" = some (some (.ref f_refuse_no_piece))) (l_refuse_no_piece : K.lookup f_refuse_no_piece = some ⟨oc_refuse_no_piece, od_refuse_no_piece, .func (PySem.W.fnOf "refuse_no_piece" "refuse_no_piece" (defArgs s_refuse_no_piece) (defBody s_refuse_no_piece) (defScope s_refuse_no_piece) .none kV_refuse_no_piece dc_refuse_no_piece pm_refuse_no_piece an_refuse_no_piece cd_refuse_no_piece ct_refuse_no_piece), sl_refuse_no_piece⟩) (c_refuse_no_piece : PySem.W.codeIn K cd_refuse_no_piece "refuse_no_piece" = true) (k_refuse_no_piece : PySem.W.keepIn K (.ref f_refuse_no_piece) = true)
    (a_grabs_of : PySem.W.nsIn K mainGlobals "grabs_of" = some (some (.ref f_grabs_of))) (l_grabs_of : K.lookup f_grabs_of = some ⟨oc_grabs_of, od_grabs_of, .func (PySem.W.fnOf "grabs_of" "grabs_of" (defArgs s_grabs_of) (defBody s_grabs_of) (defScope s_grabs_of) .none kV_grabs_of dc_grabs_of pm_grabs_of an_grabs_of cd_grabs_of ct_grabs_of), sl_grabs_of⟩) (c_grabs_of : PySem.W.codeIn K cd_grabs_of "grabs_of" = true) (k_grabs_of : PySem.W.keepIn K (.ref f_grabs_of) = true)
    (a_grabbed : PySem.W.nsIn K mainGlobals "grabbed" = some (some (.ref f_grabbed))) (l_grabbed : K.lookup f_grabbed = some ⟨oc_grabbed, od_grabbed, .func (PySem.W.fnOf "grabbed" "grabbed" (defArgs s_grabbed) (defBody s_grabbed) (defScope s_grabbed) .none kV_grabbed dc_grabbed pm_grabbed an_grabbed cd_grabbed ct_grabbed), sl_grabbed⟩) (c_grabbed : PySem.W.codeIn K cd_grabbed "grabbed" = true) (k_grabbed : PySem.W.keepIn K (.ref f_grabbed) = true)
    (a_law_train : PySem.W.nsIn K mainGlobals "_law_train" = some (some (.ref f_law_train))) (l_law_train : K.lookup f_law_train = some ⟨oc_law_train, od_law_train, .func (PySem.W.fnOf "_law_train" "_law_train" (defArgs s_law_train) (defBody s_law_train) (defScope s_law_train) .none kV_law_train dc_law_train pm_law_train an_law_train cd_law_train ct_law_train), sl_law_train⟩) (c_law_train : PySem.W.codeIn K cd_law_train "_law_train" = true) (k_law_train : PySem.W.keepIn K (.ref f_law_train) = true)
    (a_law_a_about : PySem.W.nsIn K mainGlobals "_law_a_about" = some (some (.ref f_law_a_about))) (l_law_a_about : K.lookup f_law_a_about = some ⟨oc_law_a_about, od_law_a_about, .func (PySem.W.fnOf "_law_a_about" "_law_a_about" (defArgs s_law_a_about) (defBody s_law_a_about) (defScope s_law_a_about) .none kV_law_a_about dc_law_a_about pm_law_a_about an_law_a_about cd_law_a_about ct_law_a_about), sl_law_a_about⟩) (c_law_a_about : PySem.W.codeIn K cd_law_a_about "_law_a_about" = true) (k_law_a_about : PySem.W.keepIn K (.ref f_law_a_about) = true)
    (a_law_a_far : PySem.W.nsIn K mainGlobals "_law_a_far" = some (some (.ref f_law_a_far))) (l_law_a_far : K.lookup f_law_a_far = some ⟨oc_law_a_far, od_law_a_far, .func (PySem.W.fnOf "_law_a_far" "_law_a_far" (defArgs s_law_a_far) (defBody s_law_a_far) (defScope s_law_a_far) .none kV_law_a_far dc_law_a_far pm_law_a_far an_law_a_far cd_law_a_far ct_law_a_far), sl_law_a_far⟩) (c_law_a_far : PySem.W.codeIn K cd_law_a_far "_law_a_far" = true) (k_law_a_far : PySem.W.keepIn K (.ref f_law_a_far) = true)
    (a_law_alike : PySem.W.nsIn K mainGlobals "_law_alike" = some (some (.ref f_law_alike))) (l_law_alike : K.lookup f_law_alike = some ⟨oc_law_alike, od_law_alike, .func (PySem.W.fnOf "_law_alike" "_law_alike" (defArgs s_law_alike) (defBody s_law_alike) (defScope s_law_alike) .none kV_law_alike dc_law_alike pm_law_alike an_law_alike cd_law_alike ct_law_alike), sl_law_alike⟩) (c_law_alike : PySem.W.codeIn K cd_law_alike "_law_alike" = true) (k_law_alike : PySem.W.keepIn K (.ref f_law_alike) = true)
    (a_law : PySem.W.nsIn K mainGlobals "law" = some (some (.ref f_law))) (l_law : K.lookup f_law = some ⟨oc_law, od_law, .func (PySem.W.fnOf "law" "law" (defArgs s_law) (defBody s_law) (defScope s_law) .none kV_law dc_law pm_law an_law cd_law ct_law), sl_law⟩) (c_law : PySem.W.codeIn K cd_law "law" = true) (k_law : PySem.W.keepIn K (.ref f_law) = true)
    (z_abs : PySem.W.nsIn K mainGlobals "abs" = some none)
    (z_int : PySem.W.nsIn K mainGlobals "int" = some none)
    (z_len : PySem.W.nsIn K mainGlobals "len" = some none)
    (z_list : PySem.W.nsIn K mainGlobals "list" = some none)
    (z_min : PySem.W.nsIn K mainGlobals "min" = some none)
    (z_range : PySem.W.nsIn K mainGlobals "range" = some none)
    (z_sorted : PySem.W.nsIn K mainGlobals "sorted" = some none)
    (z_sum : PySem.W.nsIn K mainGlobals "sum" = some none)
    (z_zip : PySem.W.nsIn K mainGlobals "zip" = some none)
    (g_MOST_PLAYS : PySem.W.nsIn K mainGlobals "MOST_PLAYS" = some (some (.int 12 t_MOST_PLAYS))) :
    ∃ fd : FuncData, (∀ (s : Shared) (v : Value), BindsTo s fd ⟨[v], []⟩ [("script", v)]) ∧ ∀ base : Heap, K.In base → base.Ns mainGlobals mg → FnOk l.prog w K mg base CX0 8 fa fd ["script"] (spLaw K) := by
  have e := hfa.symm.trans (PySem.W.mg_of X G a_law)
  cases e
  have T : Txt mg := ⟨PySem.W.mg_none_of X G z_abs, PySem.W.mg_none_of X G z_int, PySem.W.mg_none_of X G z_len, PySem.W.mg_none_of X G z_list, PySem.W.mg_none_of X G z_min, PySem.W.mg_none_of X G z_range, PySem.W.mg_none_of X G z_sorted, PySem.W.mg_none_of X G z_sum, PySem.W.mg_none_of X G z_zip, ⟨_, PySem.W.mg_of X G g_MOST_PLAYS⟩⟩
  have F_law_cell_at := fun_mk (st := s_law_cell_at) l_law_cell_at c_law_cell_at k_law_cell_at
  have D_law_cell_at : Def K mg "_law_cell_at" s_law_cell_at := ⟨_, _, F_law_cell_at, PySem.W.mg_of X G a_law_cell_at⟩
  have F_law_draws := fun_mk (st := s_law_draws) l_law_draws c_law_draws k_law_draws
  have D_law_draws : Def K mg "_law_draws" s_law_draws := ⟨_, _, F_law_draws, PySem.W.mg_of X G a_law_draws⟩
  have F_is_train := fun_mk (st := s_is_train) l_is_train c_is_train k_is_train
  have D_is_train : Def K mg "is_train" s_is_train := ⟨_, _, F_is_train, PySem.W.mg_of X G a_is_train⟩
  have F_refuse_no_train := fun_mk (st := s_refuse_no_train) l_refuse_no_train c_refuse_no_train k_refuse_no_train
  have D_refuse_no_train : Def K mg "refuse_no_train" s_refuse_no_train := ⟨_, _, F_refuse_no_train, PySem.W.mg_of X G a_refuse_no_train⟩
  have F_keeps_plays := fun_mk (st := s_keeps_plays) l_keeps_plays c_keeps_plays k_keeps_plays
  have D_keeps_plays : Def K mg "keeps_plays" s_keeps_plays := ⟨_, _, F_keeps_plays, PySem.W.mg_of X G a_keeps_plays⟩
  have F_is_stand := fun_mk (st := s_is_stand) l_is_stand c_is_stand k_is_stand
  have D_is_stand : Def K mg "is_stand" s_is_stand := ⟨_, _, F_is_stand, PySem.W.mg_of X G a_is_stand⟩
  have F_refuse_no_stand := fun_mk (st := s_refuse_no_stand) l_refuse_no_stand c_refuse_no_stand k_refuse_no_stand
  have D_refuse_no_stand : Def K mg "refuse_no_stand" s_refuse_no_stand := ⟨_, _, F_refuse_no_stand, PySem.W.mg_of X G a_refuse_no_stand⟩
  have F_dragged := fun_mk (st := s_dragged) l_dragged c_dragged k_dragged
  have D_dragged : Def K mg "dragged" s_dragged := ⟨_, _, F_dragged, PySem.W.mg_of X G a_dragged⟩
  have F_all_dragged := fun_mk (st := s_all_dragged) l_all_dragged c_all_dragged k_all_dragged
  have D_all_dragged : Def K mg "all_dragged" s_all_dragged := ⟨_, _, F_all_dragged, PySem.W.mg_of X G a_all_dragged⟩
  have F_turned := fun_mk (st := s_turned) l_turned c_turned k_turned
  have D_turned : Def K mg "turned" s_turned := ⟨_, _, F_turned, PySem.W.mg_of X G a_turned⟩
  have F_moved := fun_mk (st := s_moved) l_moved c_moved k_moved
  have D_moved : Def K mg "moved" s_moved := ⟨_, _, F_moved, PySem.W.mg_of X G a_moved⟩
  have F_refuse_no_piece := fun_mk (st := s_refuse_no_piece) l_refuse_no_piece c_refuse_no_piece k_refuse_no_piece
  have D_refuse_no_piece : Def K mg "refuse_no_piece" s_refuse_no_piece := ⟨_, _, F_refuse_no_piece, PySem.W.mg_of X G a_refuse_no_piece⟩
  have F_grabs_of := fun_mk (st := s_grabs_of) l_grabs_of c_grabs_of k_grabs_of
  have D_grabs_of : Def K mg "grabs_of" s_grabs_of := ⟨_, _, F_grabs_of, PySem.W.mg_of X G a_grabs_of⟩
  have F_grabbed := fun_mk (st := s_grabbed) l_grabbed c_grabbed k_grabbed
  have D_grabbed : Def K mg "grabbed" s_grabbed := ⟨_, _, F_grabbed, PySem.W.mg_of X G a_grabbed⟩
  have F_law_train := fun_mk (st := s_law_train) l_law_train c_law_train k_law_train
  have D_law_train : Def K mg "_law_train" s_law_train := ⟨_, _, F_law_train, PySem.W.mg_of X G a_law_train⟩
  have F_law_a_about := fun_mk (st := s_law_a_about) l_law_a_about c_law_a_about k_law_a_about
  have D_law_a_about : Def K mg "_law_a_about" s_law_a_about := ⟨_, _, F_law_a_about, PySem.W.mg_of X G a_law_a_about⟩
  have F_law_a_far := fun_mk (st := s_law_a_far) l_law_a_far c_law_a_far k_law_a_far
  have D_law_a_far : Def K mg "_law_a_far" s_law_a_far := ⟨_, _, F_law_a_far, PySem.W.mg_of X G a_law_a_far⟩
  have F_law_alike := fun_mk (st := s_law_alike) l_law_alike c_law_alike k_law_alike
  have D_law_alike : Def K mg "_law_alike" s_law_alike := ⟨_, _, F_law_alike, PySem.W.mg_of X G a_law_alike⟩
  have F_law := fun_mk (st := s_law) l_law c_law k_law
  have D_law : Def K mg "law" s_law := ⟨_, _, F_law, PySem.W.mg_of X G a_law⟩
  refine ⟨PySem.W.fnOf "law" "law" (defArgs s_law) (defBody s_law) (defScope s_law) .none kV_law dc_law pm_law an_law cd_law ct_law, fun s v => .of_eq rfl, fun base _ _ => ?_⟩
  have C_law_cell_at := ok_law_cell_at (P := l.prog) (w := w) (base := base) T D_law_cell_at 
  have C_law_draws := ok_law_draws (P := l.prog) (w := w) (base := base) T D_law_draws 
  have C_is_train := ok_is_train (P := l.prog) (w := w) (base := base) T D_is_train 
  have C_refuse_no_train := ok_refuse_no_train (P := l.prog) (w := w) (base := base) T D_refuse_no_train C_is_train
  have C_keeps_plays := ok_keeps_plays (P := l.prog) (w := w) (base := base) T D_keeps_plays 
  have C_is_stand := ok_is_stand (P := l.prog) (w := w) (base := base) T D_is_stand C_refuse_no_train C_keeps_plays
  have C_refuse_no_stand := ok_refuse_no_stand (P := l.prog) (w := w) (base := base) T D_refuse_no_stand C_is_stand
  have C_dragged := ok_dragged (P := l.prog) (w := w) (base := base) T D_dragged 
  have C_all_dragged := ok_all_dragged (P := l.prog) (w := w) (base := base) T D_all_dragged C_dragged
  have C_turned := ok_turned (P := l.prog) (w := w) (base := base) T D_turned C_refuse_no_stand C_all_dragged
  have C_moved := ok_moved (P := l.prog) (w := w) (base := base) T D_moved C_all_dragged
  have C_refuse_no_piece := ok_refuse_no_piece (P := l.prog) (w := w) (base := base) T D_refuse_no_piece 
  have C_grabs_of := ok_grabs_of (P := l.prog) (w := w) (base := base) T D_grabs_of C_refuse_no_stand C_refuse_no_piece C_moved
  have C_grabbed := ok_grabbed (P := l.prog) (w := w) (base := base) T D_grabbed C_grabs_of
  have C_law_train := ok_law_train (P := l.prog) (w := w) (base := base) T D_law_train C_law_draws C_law_cell_at
  have C_law_a_about := ok_law_a_about (P := l.prog) (w := w) (base := base) T D_law_a_about 
  have C_law_a_far := ok_law_a_far (P := l.prog) (w := w) (base := base) T D_law_a_far 
  have C_law_alike := ok_law_alike (P := l.prog) (w := w) (base := base) T D_law_alike C_law_a_about C_grabs_of
  exact ok_law F_law T C_law_train C_law_cell_at C_law_draws C_grabs_of C_law_alike C_is_stand C_law_a_far C_turned C_grabbed
theorem walk {l : PySem.W.OpenLaw} {q : Program} {loose : List Str} {XP : (Str → Option Value) → Heap → Prop} {YP : World → Heap → Prop} {d : DefRec} {K : Params → PySem.W.Frag} (hn : l.most = some 63) (hdf : d.params.defaults = [])
    (hY : ∀ (w : World) (h : Heap), YP w h → (K w.params).In h)
    (F : ∀ (w : World) (mg : Str → Option Value) (fa : Addr) (h : Heap), (K w.params).In h → h.Ns mainGlobals mg → mg d.name = some (.ref fa) →
      ∃ fd : FuncData, (∀ (s : Shared) (u : Value), BindsTo s fd ⟨[u], []⟩ [("script", u)]) ∧ ∀ base : Heap, (K w.params).In base → base.Ns mainGlobals mg → FnOk l.prog w (K w.params) mg base CX0 8 fa fd ["script"] (spLaw (K w.params))) :
    PySem.W.WalkO q loose XP YP l.row.toRowW d [] (fun f vs => PySem.call f vs) :=
  L2.walk_of (n := 63) (k := 8) (x := "script") (CX := fun _ => CX0) (sp := fun w => spLaw (K w.params)) hn (by decide) hdf ⟨rfl, by decide, by decide⟩ hY F (fun _ _ a ns hl _ hS => ⟨a, ns, rfl, hS, hl, fun _ => rfl⟩) fun _ _ _ _ _ z => z
end My
theorem PySem.W.Fast.tw18331510983325281280 : True := trivial
theorem PySem.W.Fast.tw2709557058857018400 : True := trivial
theorem PySem.W.Fast.tw10488298533225059552 : True := trivial
theorem PySem.W.Fast.tw5774005608263260832 : True := trivial
theorem PySem.W.Fast.tw17552094817246554880 : True := trivial
theorem PySem.W.Fast.tw97204227092258624 : True := trivial
theorem PySem.W.Fast.tw1389392238246085472 : True := trivial
theorem PySem.W.Fast.tw7129685381786960736 : True := trivial
theorem PySem.W.Fast.tw3465938049096386496 : True := trivial
theorem PySem.W.Fast.tw5988043803944931521 : True := trivial
theorem PySem.W.Fast.tw10027665113253739841 : True := trivial
theorem PySem.W.Fast.tw17447296069454322241 : True := trivial
theorem PySem.W.Fast.tw13546221650122967905 : True := trivial
theorem PySem.W.Fast.tw9996893096922196897 : True := trivial
theorem PySem.W.Fast.tw4493668994324185025 : True := trivial
theorem PySem.W.Fast.tw13131655156286372833 : True := trivial
theorem PySem.W.Fast.tw636485033252276450 : True := trivial
theorem PySem.W.Fast.tw10057762004727771426 : True := trivial
theorem PySem.W.Fast.tw9394528806887330306 : True := trivial
theorem PySem.W.Fast.tw11705381110681783651 : True := trivial
theorem PySem.W.Fast.tw11256065348580609699 : True := trivial
theorem PySem.W.Fast.tw2595196446817694435 : True := trivial
theorem PySem.W.Fast.tw14091876943860481827 : True := trivial
theorem PySem.W.Fast.tw15289460408858027843 : True := trivial
theorem PySem.W.Fast.tw2034578160915244899 : True := trivial
theorem PySem.W.Fast.tw9336923443064880035 : True := trivial
theorem PySem.W.Fast.tw13577452927994002371 : True := trivial
theorem PySem.W.Fast.tw3216935492315262116 : True := trivial
theorem PySem.W.Fast.tw3887450004467324260 : True := trivial
theorem PySem.W.Fast.tw2872988110430553636 : True := trivial
theorem PySem.W.Fast.tw18211310642985051429 : True := trivial
theorem PySem.W.Fast.tw6916083870766182789 : True := trivial
theorem PySem.W.Fast.tw9449799857701819845 : True := trivial
theorem PySem.W.Fast.tw18422036199105552869 : True := trivial
theorem PySem.W.Fast.tw9555901035547962885 : True := trivial
theorem PySem.W.Fast.tw18113650228671280933 : True := trivial
theorem PySem.W.Fast.tw5543073334235352965 : True := trivial
theorem PySem.W.Fast.tw7363333265878986661 : True := trivial
theorem PySem.W.Fast.tw730779328696550502 : True := trivial
theorem PySem.W.Fast.tw8416952211519984806 : True := trivial
theorem PySem.W.Fast.tw15045701501039421670 : True := trivial
theorem PySem.W.Fast.tw16380548095413673318 : True := trivial
theorem PySem.W.Fast.tw13374143215276455462 : True := trivial
theorem PySem.W.Fast.tw210054707661923046 : True := trivial
theorem PySem.W.Fast.tw7547671916127403846 : True := trivial
theorem PySem.W.Fast.tw515507771261769574 : True := trivial
theorem PySem.W.Fast.tw11854035716185444230 : True := trivial
theorem PySem.W.Fast.tw2141319364752571302 : True := trivial
theorem PySem.W.Fast.tw15830881271527750023 : True := trivial
theorem PySem.W.Fast.tw3332713504929321479 : True := trivial
theorem PySem.W.Fast.tw10794552083308416583 : True := trivial
theorem PySem.W.Fast.tw13042928694117230375 : True := trivial
theorem PySem.W.Fast.tw17882003274899298151 : True := trivial
theorem PySem.W.Fast.tw2105777484394958856 : True := trivial
theorem PySem.W.Fast.tw10264416141844659368 : True := trivial
theorem PySem.W.Fast.tw3482227985465085512 : True := trivial
theorem PySem.W.Fast.tw1165224071159129864 : True := trivial
theorem PySem.W.Fast.tw942688243471963944 : True := trivial
theorem PySem.W.Fast.tw16832378707042015273 : True := trivial
theorem PySem.W.Fast.tw11899197337086940297 : True := trivial
theorem PySem.W.Fast.tw11126958861809923337 : True := trivial
theorem PySem.W.Fast.tw15156904831036062185 : True := trivial
theorem PySem.W.Fast.tw7721836947634166441 : True := trivial
theorem PySem.W.Fast.tw10478162904148764425 : True := trivial
theorem PySem.W.Fast.tw5693612791083380585 : True := trivial
theorem PySem.W.Fast.tw7739381310802046026 : True := trivial
theorem PySem.W.Fast.tw1308505357080571978 : True := trivial
theorem PySem.W.Fast.tw7164154957790277770 : True := trivial
theorem PySem.W.Fast.tw13439197485049130250 : True := trivial
theorem PySem.W.Fast.tw15558403245286244714 : True := trivial
theorem PySem.W.Fast.tw9377138299199254890 : True := trivial
theorem PySem.W.Fast.tw16933171516183520810 : True := trivial
theorem PySem.W.Fast.tw5274075335377935274 : True := trivial
theorem PySem.W.Fast.tw4364018585696036907 : True := trivial
theorem PySem.W.Fast.tw2644260771383976075 : True := trivial
theorem PySem.W.Fast.tw846100597355532491 : True := trivial
theorem PySem.W.Fast.tw8814626155482019307 : True := trivial
theorem PySem.W.Fast.tw16999921930748934731 : True := trivial
theorem PySem.W.Fast.tw5069254124440300139 : True := trivial
theorem PySem.W.Fast.tw11357689160637173451 : True := trivial
theorem PySem.W.Fast.tw286368362615855883 : True := trivial
theorem PySem.W.Fast.tw2969001403962440491 : True := trivial
theorem PySem.W.Fast.tw5132237073649061707 : True := trivial
theorem PySem.W.Fast.tw18081159907786736619 : True := trivial
theorem PySem.W.Fast.tw18029533721953021068 : True := trivial
theorem PySem.W.Fast.tw18216721601656895628 : True := trivial
theorem PySem.W.Fast.tw16567632925665639596 : True := trivial
theorem PySem.W.Fast.tw6075665751588395212 : True := trivial
theorem PySem.W.Fast.tw16790360498618708396 : True := trivial
theorem PySem.W.Fast.tw4202010130005444492 : True := trivial
theorem PySem.W.Fast.tw1465092556875529132 : True := trivial
theorem PySem.W.Fast.tw9128931432586272748 : True := trivial
theorem PySem.W.Fast.tw2776606923301499917 : True := trivial
theorem PySem.W.Fast.tw15703647165456947277 : True := trivial
theorem PySem.W.Fast.tw2749495534055295277 : True := trivial
theorem PySem.W.Fast.tw12673658269631411597 : True := trivial
theorem PySem.W.Fast.tw1304075246308380141 : True := trivial
theorem PySem.W.Fast.tw7964068176135226925 : True := trivial
theorem PySem.W.Fast.tw1246315482001937165 : True := trivial
theorem PySem.W.Fast.tw27186761320198029 : True := trivial
theorem PySem.W.Fast.tw11580366885494461486 : True := trivial
theorem PySem.W.Fast.tw11999456014812034254 : True := trivial
theorem PySem.W.Fast.tw10571611786333596046 : True := trivial
theorem PySem.W.Fast.tw15548344456494872078 : True := trivial
theorem PySem.W.Fast.tw15305256690044344078 : True := trivial
theorem PySem.W.Fast.tw12892929238623991887 : True := trivial
theorem PySem.W.Fast.tw15623236644789636591 : True := trivial
theorem PySem.W.Fast.tw17536929044084264431 : True := trivial
theorem PySem.W.Fast.tw4697034438394109519 : True := trivial
theorem PySem.W.Fast.tw3848632614048470767 : True := trivial
theorem PySem.W.Fast.tw6264391095048176656 : True := trivial
theorem PySem.W.Fast.tw18315128514827564048 : True := trivial
theorem PySem.W.Fast.tw2639291283864655056 : True := trivial
theorem PySem.W.Fast.tw14582646880948168912 : True := trivial
theorem PySem.W.Fast.tw12531128136574852336 : True := trivial
theorem PySem.W.Fast.tw2600172023168134448 : True := trivial
theorem PySem.W.Fast.tw8418163290786327984 : True := trivial
theorem PySem.W.Fast.tw1786746669921458864 : True := trivial
theorem PySem.W.Fast.tw12271416159016738704 : True := trivial
theorem PySem.W.Fast.tw3240983937193754641 : True := trivial
theorem PySem.W.Fast.tw4635060877862027537 : True := trivial
theorem PySem.W.Fast.tw6077729156157105457 : True := trivial
theorem PySem.W.Fast.tw1753965681269181969 : True := trivial
theorem PySem.W.Fast.tw13073487339682400338 : True := trivial
theorem PySem.W.Fast.tw2193869955259826322 : True := trivial
theorem PySem.W.Fast.tw9308570526716629138 : True := trivial
theorem PySem.W.Fast.tw6277262681586172210 : True := trivial
theorem PySem.W.Fast.tw17911863692037042674 : True := trivial
theorem PySem.W.Fast.tw6469164904552245810 : True := trivial
theorem PySem.W.Fast.tw3987310426020759186 : True := trivial
theorem PySem.W.Fast.tw18379945571824558802 : True := trivial
theorem PySem.W.Fast.tw13817762826788143443 : True := trivial
theorem PySem.W.Fast.tw4432180894995483860 : True := trivial
theorem PySem.W.Fast.tw7332105192598094356 : True := trivial
theorem PySem.W.Fast.tw6837840247187681876 : True := trivial
theorem PySem.W.Fast.tw6365558308175227540 : True := trivial
theorem PySem.W.Fast.tw9643887662153403477 : True := trivial
theorem PySem.W.Fast.tw10624299984402358453 : True := trivial
theorem PySem.W.Fast.tw11832884232132121813 : True := trivial
theorem PySem.W.Fast.tw4246485211897829653 : True := trivial
theorem PySem.W.Fast.tw4071133076630494805 : True := trivial
theorem PySem.W.Fast.tw411363626658864053 : True := trivial
theorem PySem.W.Fast.tw280398951265552406 : True := trivial
theorem PySem.W.Fast.tw13464939780496713878 : True := trivial
theorem PySem.W.Fast.tw16069558368731975926 : True := trivial
theorem PySem.W.Fast.tw12943291933251406102 : True := trivial
theorem PySem.W.Fast.tw14774011601878936854 : True := trivial
theorem PySem.W.Fast.tw13945413861336933718 : True := trivial
theorem PySem.W.Fast.tw2197126872328570358 : True := trivial
theorem PySem.W.Fast.tw4366163441343636054 : True := trivial
theorem PySem.W.Fast.tw15856277451198035894 : True := trivial
theorem PySem.W.Fast.tw10906911474842458231 : True := trivial
theorem PySem.W.Fast.tw5108073324757772567 : True := trivial
theorem PySem.W.Fast.tw17680167084162115447 : True := trivial
theorem PySem.W.Fast.tw2290801453333494743 : True := trivial
theorem PySem.W.Fast.tw7673035444174390360 : True := trivial
theorem PySem.W.Fast.tw15041243939877551224 : True := trivial
theorem PySem.W.Fast.tw7511015684945138904 : True := trivial
theorem PySem.W.Fast.tw5081217498000772376 : True := trivial
theorem PySem.W.Fast.tw3740534072148145624 : True := trivial
theorem PySem.W.Fast.tw7858720731012938296 : True := trivial
theorem PySem.W.Fast.tw3304778555325784728 : True := trivial
theorem PySem.W.Fast.tw3999079072342060792 : True := trivial
theorem PySem.W.Fast.tw4011718829781502936 : True := trivial
theorem PySem.W.Fast.tw16929618512455019769 : True := trivial
theorem PySem.W.Fast.tw6703140319710572985 : True := trivial
theorem PySem.W.Fast.tw8096847377559208409 : True := trivial
theorem PySem.W.Fast.tw3939443250400045561 : True := trivial
theorem PySem.W.Fast.tw2183306329938855513 : True := trivial
theorem PySem.W.Fast.tw12523928581658266361 : True := trivial
theorem PySem.W.Fast.tw2417566349934289721 : True := trivial
theorem PySem.W.Fast.tw2387549200749066233 : True := trivial
theorem PySem.W.Fast.tw13411761143166182522 : True := trivial
theorem PySem.W.Fast.tw2107064475213176026 : True := trivial
theorem PySem.W.Fast.tw11202112922337626650 : True := trivial
theorem PySem.W.Fast.tw12911362562012789594 : True := trivial
theorem PySem.W.Fast.tw4049914198346050587 : True := trivial
theorem PySem.W.Fast.tw5297458468765073691 : True := trivial
theorem PySem.W.Fast.tw2611406129100822843 : True := trivial
theorem PySem.W.Fast.tw281357052598211963 : True := trivial
theorem PySem.W.Fast.tw14624814389782668923 : True := trivial
theorem PySem.W.Fast.tw8686472835011164412 : True := trivial
theorem PySem.W.Fast.tw18153404344152703228 : True := trivial
theorem PySem.W.Fast.tw17338260119325758972 : True := trivial
theorem PySem.W.Fast.tw12361969854926257980 : True := trivial
theorem PySem.W.Fast.tw17976543545808423836 : True := trivial
theorem PySem.W.Fast.tw10892052578711211325 : True := trivial
theorem PySem.W.Fast.tw7170505229262071133 : True := trivial
theorem PySem.W.Fast.tw10877357326432305533 : True := trivial
theorem PySem.W.Fast.tw6191665746003126717 : True := trivial
theorem PySem.W.Fast.tw4471443426978516445 : True := trivial
theorem PySem.W.Fast.tw404799459551464221 : True := trivial
theorem PySem.W.Fast.tw18286874638340953949 : True := trivial
theorem PySem.W.Fast.tw14407590078508648285 : True := trivial
theorem PySem.W.Fast.tw17229241979389438813 : True := trivial
theorem PySem.W.Fast.tw4870044305820310686 : True := trivial
theorem PySem.W.Fast.tw626100916793893150 : True := trivial
theorem PySem.W.Fast.tw2071014287990003070 : True := trivial
theorem PySem.W.Fast.tw2586057283418015102 : True := trivial
theorem PySem.W.Fast.tw7497935213058970494 : True := trivial
theorem PySem.W.Fast.tw14631285290199293023 : True := trivial
theorem PySem.W.Fast.tw10696609963429589215 : True := trivial
theorem PySem.W.Fast.tw11727218708897821983 : True := trivial
theorem PySem.W.Fast.tw2139766067499799903 : True := trivial
theorem PySem.W.Fast.tw11860446880072879679 : True := trivial
theorem PySem.W.Fast.tw17530223617550574175 : True := trivial
theorem PySem.W.Fast.tw662760338461163519 : True := trivial
open PySem PySem.W PyProof.Rows
set_option maxRecDepth 100000 in
set_option maxHeartbeats 0 in
theorem PySem.Challenge.cw_lugtrain_k37_whole_grabs_either_way_abou_holds : PySem.Challenge.rw_lugtrain_k37_whole_grabs_either_way_abou.Holds := by
  w_on; o_law; k_head; (case hw => w_witness2)
  k_fill
  refine My.walk (l := PySem.Challenge.rw_lugtrain_k37_whole_grabs_either_way_abou) rfl rfl (fun w h Y => PySem.W.kIn_of Y) ?F
  case F =>
    intro w mg fa h KX G hmg
    refine' My.all_mk KX G hmg ?a_law_cell_at ?l_law_cell_at ?c_law_cell_at ?k_law_cell_at ?a_law_draws ?l_law_draws ?c_law_draws ?k_law_draws ?a_is_train ?l_is_train ?c_is_train ?k_is_train ?a_refuse_no_train ?l_refuse_no_train ?c_refuse_no_train ?k_refuse_no_train ?a_keeps_plays ?l_keeps_plays ?c_keeps_plays ?k_keeps_plays ?a_is_stand ?l_is_stand ?c_is_stand ?k_is_stand ?a_refuse_no_stand ?l_refuse_no_stand ?c_refuse_no_stand ?k_refuse_no_stand ?a_dragged ?l_dragged ?c_dragged ?k_dragged ?a_all_dragged ?l_all_dragged ?c_all_dragged ?k_all_dragged ?a_turned ?l_turned ?c_turned ?k_turned ?a_moved ?l_moved ?c_moved ?k_moved ?a_refuse_no_piece ?l_refuse_no_piece ?c_refuse_no_piece ?k_refuse_no_piece ?a_grabs_of ?l_grabs_of ?c_grabs_of ?k_grabs_of ?a_grabbed ?l_grabbed ?c_grabbed ?k_grabbed ?a_law_train ?l_law_train ?c_law_train ?k_law_train ?a_law_a_about ?l_law_a_about ?c_law_a_about ?k_law_a_about ?a_law_a_far ?l_law_a_far ?c_law_a_far ?k_law_a_far ?a_law_alike ?l_law_alike ?c_law_alike ?k_law_alike ?a_law ?l_law ?c_law ?k_law ?z_abs ?z_int ?z_len ?z_list ?z_min ?z_range ?z_sorted ?z_sum ?z_zip ?g_MOST_PLAYS
    (case a_law_cell_at => k_is)
    (case l_law_cell_at => k_is)
    (case c_law_cell_at => k_is)
    (case k_law_cell_at => k_is)
    (case a_law_draws => k_is)
    (case l_law_draws => k_is)
    (case c_law_draws => k_is)
    (case k_law_draws => k_is)
    (case a_is_train => k_is)
    (case l_is_train => k_is)
    (case c_is_train => k_is)
    (case k_is_train => k_is)
    (case a_refuse_no_train => k_is)
    (case l_refuse_no_train => k_is)
    (case c_refuse_no_train => k_is)
    (case k_refuse_no_train => k_is)
    (case a_keeps_plays => k_is)
    (case l_keeps_plays => k_is)
    (case c_keeps_plays => k_is)
    (case k_keeps_plays => k_is)
    (case a_is_stand => k_is)
    (case l_is_stand => k_is)
    (case c_is_stand => k_is)
    (case k_is_stand => k_is)
    (case a_refuse_no_stand => k_is)
    (case l_refuse_no_stand => k_is)
    (case c_refuse_no_stand => k_is)
    (case k_refuse_no_stand => k_is)
    (case a_dragged => k_is)
    (case l_dragged => k_is)
    (case c_dragged => k_is)
    (case k_dragged => k_is)
    (case a_all_dragged => k_is)
    (case l_all_dragged => k_is)
    (case c_all_dragged => k_is)
    (case k_all_dragged => k_is)
    (case a_turned => k_is)
    (case l_turned => k_is)
    (case c_turned => k_is)
    (case k_turned => k_is)
    (case a_moved => k_is)
    (case l_moved => k_is)
    (case c_moved => k_is)
    (case k_moved => k_is)
    (case a_refuse_no_piece => k_is)
    (case l_refuse_no_piece => k_is)
    (case c_refuse_no_piece => k_is)
    (case k_refuse_no_piece => k_is)
    (case a_grabs_of => k_is)
    (case l_grabs_of => k_is)
    (case c_grabs_of => k_is)
    (case k_grabs_of => k_is)
    (case a_grabbed => k_is)
    (case l_grabbed => k_is)
    (case c_grabbed => k_is)
    (case k_grabbed => k_is)
    (case a_law_train => k_is)
    (case l_law_train => k_is)
    (case c_law_train => k_is)
    (case k_law_train => k_is)
    (case a_law_a_about => k_is)
    (case l_law_a_about => k_is)
    (case c_law_a_about => k_is)
    (case k_law_a_about => k_is)
    (case a_law_a_far => k_is)
    (case l_law_a_far => k_is)
    (case c_law_a_far => k_is)
    (case k_law_a_far => k_is)
    (case a_law_alike => k_is)
    (case l_law_alike => k_is)
    (case c_law_alike => k_is)
    (case k_law_alike => k_is)
    (case a_law => k_is)
    (case l_law => k_is)
    (case c_law => k_is)
    (case k_law => k_is)
    (case z_abs => k_is)
    (case z_int => k_is)
    (case z_len => k_is)
    (case z_list => k_is)
    (case z_min => k_is)
    (case z_range => k_is)
    (case z_sorted => k_is)
    (case z_sum => k_is)
    (case z_zip => k_is)
    (case g_MOST_PLAYS => k_is)

