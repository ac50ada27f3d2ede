import PyProof.Rows.All
import Wide.All
import OpenK.AllK
import Wide.FinOn
import Lean
import PyProof.EqAt
import PyProof.EqKinds
import PyProof.TupleCall
import PyProof.StationsW
import PyProof.ExcAttrAll.ValueError
import PySem.Challenge.RW_lugtrain_k42_whole_rounds_gone

set_option Elab.async false
set_option linter.all false
set_option maxRecDepth 100000
/-! THE HAND LAYER, for ints, bools, texts, own classes, LISTS and tuples (index, slices, in, append, pop ..), calls, loops. Paste it whole ahead of your own text; what your proof does not reach may be deleted. -/
namespace L2
open PySem PySem.Spec PyProof.Rows

/-- a key: an int or a str -/
abbrev Key := Sum Int Str
def keyIs : Key → Value → Bool
  | .inl k, v => Value.isInt k v
  | .inr x, v => Value.isStrOf x v
def keyH (w : World) : Key → Int
  | .inl k => hashInt k
  | .inr x => hashStr w x
theorem keyIs_shape : ∀ {k : Key} {v : Value}, keyIs k v = true → (∃ i t, k = Sum.inl i ∧ v = Value.int i t) ∨ (∃ x t, k = Sum.inr x ∧ v = Value.str x t)
  | .inl i, v, h => by
    obtain ⟨t, e⟩ := Value.isInt_shape (k := i) (v := v) h
    exact .inl ⟨i, t, rfl, e⟩
  | .inr x, v, h => by
    obtain ⟨t, e⟩ := Value.isStrOf_shape (x := x) (v := v) h
    exact .inr ⟨x, t, rfl, e⟩
theorem key_ll (a b : Int) : decide ((Sum.inl a : Key) = Sum.inl b) = (a == b) := by
  by_cases e : a = b
  · subst e; simp
  · have h : ¬ (Sum.inl a : Key) = Sum.inl b := fun q => e (Sum.inl.inj q)
    rw [decide_eq_false h]
    exact (beq_eq_false_iff_ne.mpr e).symm
theorem key_rr (a b : Str) : decide ((Sum.inr a : Key) = Sum.inr b) = decide (a = b) := by
  by_cases e : a = b
  · subst e; simp
  · have h : ¬ (Sum.inr a : Key) = Sum.inr b := fun q => e (Sum.inr.inj q)
    rw [decide_eq_false h, decide_eq_false e]
theorem key_lr (a : Int) (b : Str) : decide ((Sum.inl a : Key) = Sum.inr b) = false := decide_eq_false (fun q => nomatch q)
theorem key_rl (a : Str) (b : Int) : decide ((Sum.inr a : Key) = Sum.inl b) = false := decide_eq_false (fun q => nomatch q)

def mixKind (prog : Program) (w : World) : PySem.KeyKind prog w Key where
  is := keyIs
  hash := keyH w
  inj := fun v a b ha hb => by
    rcases keyIs_shape ha with ⟨i, t, rfl, rfl⟩ | ⟨x, t, rfl, rfl⟩
    · rcases keyIs_shape hb with ⟨j, u, rfl, e⟩ | ⟨y, u, rfl, e⟩
      · injection e with e1 _; rw [e1]
      · exact nomatch e
    · rcases keyIs_shape hb with ⟨j, u, rfl, e⟩ | ⟨y, u, rfl, e⟩
      · exact nomatch e
      · injection e with e1 _; rw [e1]
  byValue := fun k v h => by
    rcases keyIs_shape h with ⟨i, t, rfl, rfl⟩ | ⟨x, t, rfl, rfl⟩ <;> rfl
  pyHash := fun hv h => by
    rcases keyIs_shape hv with ⟨i, t, rfl, rfl⟩ | ⟨x, t, rfl, rfl⟩
    · exact wpAny_pyHash_int h
    · exact wpAny_pyHash_str h
  eqBool := fun hu hv h => by
    rcases keyIs_shape hu with ⟨i, t, rfl, rfl⟩ | ⟨x, t, rfl, rfl⟩
    · rcases keyIs_shape hv with ⟨j, u, rfl, rfl⟩ | ⟨y, u, rfl, rfl⟩
      · rw [key_ll] at h; exact wpAny_eqBool_int h
      · rw [key_lr] at h; exact SeqAt.EqAt.int_str i t y u _ _ _ _ h
    · rcases keyIs_shape hv with ⟨j, u, rfl, rfl⟩ | ⟨y, u, rfl, rfl⟩
      · rw [key_rl] at h; exact SeqAt.EqAt.str_int x t j u _ _ _ _ h
      · rw [key_rr] at h; exact wpAny_eqBool_str h
  «strs» := fun k x t v h => by
    rcases keyIs_shape h with ⟨i, u, rfl, e⟩ | ⟨y, u, rfl, e⟩
    · exact nomatch e
    · injection e with e1 _
      subst e1
      cases v <;> rfl

end L2

namespace L2
open PySem PySem.Spec PyProof.Rows

/-- a value, without the heap -/
inductive V where
  | non | bl (b : Bool) | int (i : Int) | str (x : Str) | byt (b : Array UInt8) | flt (b : UInt64) | ref (a : Addr) | ty (n : String)
  deriving DecidableEq

def RelV : V → Value → Prop
  | .non, u => u = Value.none
  | .bl b, u => u = Value.bool b
  | .int i, u => ∃ t, u = Value.int i t
  | .str x, u => ∃ t, u = Value.str x t
  | .byt b, u => ∃ t, u = Value.bytes b t
  | .flt b, u => ∃ t, u = Value.float b t
  | .ref a, u => u = Value.ref a
  | .ty n, u => u = Value.type n

abbrev Vals : List V → List Value → Prop := Paired RelV
theorem Vals.length {xs : List V} {us : List Value} (r : Vals xs us) : xs.length = us.length := Paired.length r
theorem Vals.get : ∀ {xs : List V} {us : List Value} {i : Nat} {x : V}, Vals xs us → xs[i]? = some x → ∃ u, us[i]? = some u ∧ RelV x u
  | _, _, _, _, .nil, e => by simp at e
  | _, _, 0, _, .cons r _, e => by simp at e; subst e; exact ⟨_, rfl, r⟩
  | _, _, i + 1, x, .cons _ t, e => by
    obtain ⟨u, h1, h2⟩ := Vals.get (i := i) (x := x) t (by simpa using e)
    exact ⟨u, by simpa using h1, h2⟩
theorem Vals.append : ∀ {xs ys : List V} {us ws : List Value}, Vals xs us → Vals ys ws → Vals (xs ++ ys) (us ++ ws)
  | _, _, _, _, .nil, s => s
  | _, _, _, _, .cons r t, s => .cons r (Vals.append t s)
theorem Vals.take : ∀ {xs : List V} {us : List Value} (n : Nat), Vals xs us → Vals (xs.take n) (us.take n)
  | _, _, 0, _ => .nil
  | _, _, _ + 1, .nil => .nil
  | _, _, n + 1, .cons r t => .cons r (Vals.take n t)
theorem Vals.drop : ∀ {xs : List V} {us : List Value} (n : Nat), Vals xs us → Vals (xs.drop n) (us.drop n)
  | _, _, 0, r => r
  | _, _, _ + 1, .nil => .nil
  | _, _, n + 1, .cons _ t => Vals.drop n t
def RelO : Option V → Option Value → Prop
  | some v, some u => RelV v u
  | none, none => True
  | _, _ => False
def KV {κ : Type} : List (κ × V) → List (κ × Value) → Prop := Paired fun (p : κ × V) (q : κ × Value) => p.1 = q.1 ∧ RelV p.2 q.2

/-- a key of a dict (00_mix): an int or a text -/
def kV : Key → V
  | .inl i => .int i
  | .inr x => .str x

/-- what stands at a tracked address -/
inductive HO where
  /-- a list -/
  | lst (xs : List V)
  /-- a tuple (never changes) -/
  | tup (xs : List V)
  /-- a dict whose keys are ints and texts; one whose keys are tuples of ints and texts (the empty one is both) -/
  | dK (kvs : List (Key × V)) | dT (kvs : List (List Key × V))
  /-- a set of ints: its members, its size -/
  | set (S : Int → Bool) (n : Nat)
  /-- an instance of the class at C, its dict at dx, its attributes -/
  | ins (C dx : Addr) (fs : List (Str × V))
  /-- the dict of the instance at x -/
  | own (x : Addr)
  /-- the dict of an exception -/
  | xd (fs : List (Str × V))
  /-- a bound method, f of x -/
  | met (f x : Addr)
  /-- a range object lo, lo + 1, .. below hi -/
  | rng (lo hi : Int)
  /-- a thing that is known to the object (the script; a dict while a loop walks it): read, never written while it is so -/
  | frz (o : Obj) (u : HO)
  /-- a code object's table -/
  | tbl (ps : Array Value)
  /-- any other thing, by what is true of its one object (a def of one's own: SetO a S n := HO.ext fun h => ..) -/
  | ext (φ : Heap → Prop)

abbrev Hp := Addr → Option HO
def upd (H : Hp) (a : Addr) (o : HO) : Hp := fun b => if b = a then some o else H b
theorem upd_same {H : Hp} {a : Addr} {o : HO} : upd H a o a = some o := by unfold upd; rw [if_pos rfl]
theorem upd_ne {H : Hp} {a b : Addr} {o : HO} (h : b ≠ a) : upd H a o b = H b := by unfold upd; rw [if_neg h]
theorem ne_of_none {H : Hp} {a b : Addr} {o : HO} (h : H a = some o) (h' : H b = none) : a ≠ b := by
  intro e; subst e; rw [h] at h'; cases h'

section
variable (P : Program) (w : World)
def ObjOk (H : Hp) (h : Heap) (a : Addr) : HO → Prop
  | .lst xs => xs.length ≤ sizeLine ∧ ∃ (its : List Value) (n : Nat), Vals xs its ∧ h.get? a = some { cls := .type "list", data := .seq its.toArray n }
  | .tup xs => xs.length ≤ sizeLine ∧ ∃ its : List Value, Vals xs its ∧ IsTup h a its.toArray
  | .dK kvs => kvs.length ≤ sizeLine ∧ (a == sysModules) = false ∧ ∃ vs, KV kvs vs ∧ h.DictOf (mixKind P w) a vs
  | .dT kvs => kvs.length ≤ sizeLine ∧ (a == sysModules) = false ∧ ∃ xs : List (List Key × Addr × Value),
      Paired (fun (p : List Key × V) (q : List Key × Addr × Value) => p.1 = q.1 ∧ H q.2.1 = some (.tup (p.1.map kV)) ∧ RelV p.2 q.2.2) kvs xs ∧
      ∃ o es ep, h.get? a = some o ∧ o.ExactDict ∧ o.data = .dict es ep ∧ es.toList = xs.map (entryOfKey (tupleKind (mixKind P w))) ∧ (xs.map (·.1)).Nodup
  | .set S n => h.SetOf (intKind P w) a S n
  | .ins C dx fs => H dx = some (.own a) ∧ fs.length ≤ 1000 ∧ dx ≠ a ∧ h.get? a = some (PySem.W.instObj C dx) ∧
      ∃ mA, h.Ns1 dx mA ∧ (∀ f, RelO (fs.lookup f) (mA f)) ∧ PySem.Within mA (fs.map (·.1))
  | .own _ => ∃ o, h.get? a = some o
  | .xd fs => ∃ mA, h.Ns1 a mA ∧ ∀ f, RelO (fs.lookup f) (mA f)
  | .rng lo hi => ∃ t u v, h.get? a = some { cls := .type "range", data := .fields #[.int lo t, .int hi u, .int 1 v] }
  | .frz o u => h.get? a = some o ∧ ObjOk H h a u
  | .tbl ps => h.get? a = some { cls := .none, data := .fields ps }
  | .met f x => h.get? a = some (PySem.W.methodObj (.ref f) (.ref x))
  | .ext φ => φ h ∧ (∃ o, h.get? a = some o) ∧ ∀ h1 h2 : Heap, φ h1 → (∀ o, h1.get? a = some o → h2.get? a = some o) → φ h2
/-- the abstract heap is held -/
def HOk (H : Hp) (h : Heap) : Prop := ∀ a o, H a = some o → ObjOk P w H h a o
end

section
variable {P : Program} {w : World} {H H' : Hp} {h h' : Heap} {a : Addr} {o : HO}
theorem ObjOk.lt (x : ObjOk P w H h a o) : a < h.objs.size := by
  cases o with
  | lst xs => obtain ⟨_, _, _, _, e⟩ := x; exact Heap.lt_size e
  | tup xs => obtain ⟨_, _, _, p⟩ := x; exact p.lt
  | dK kvs => obtain ⟨_, _, _, _, o, _, _, e, _⟩ := x; exact Heap.lt_size e
  | dT kvs => obtain ⟨_, _, _, _, o, _, _, e, _⟩ := x; exact Heap.lt_size e
  | set S n => obtain ⟨o, _, _, _, e, _⟩ := x; exact Heap.lt_size e
  | ins C dx fs => obtain ⟨_, _, _, e, _⟩ := x; exact Heap.lt_size e
  | own y => obtain ⟨_, e⟩ := x; exact Heap.lt_size e
  | xd fs => obtain ⟨_, ⟨_, _, _, e, _⟩, _⟩ := x; exact Heap.lt_size e
  | rng lo hi => obtain ⟨_, _, _, e⟩ := x; exact Heap.lt_size e
  | frz ob u => obtain ⟨e, _⟩ := x; exact Heap.lt_size e
  | tbl ps => exact Heap.lt_size (show h.get? a = some _ from x)
  | met f y => exact Heap.lt_size (show h.get? a = some _ from x)
  | ext φ => obtain ⟨_, ⟨_, e⟩, _⟩ := x; exact Heap.lt_size e
theorem Paired.mapP {α β : Type} {F G : α → β → Prop} : ∀ {l₁ : List α} {l₂ : List β}, Paired F l₁ l₂ → (∀ a b, F a b → G a b) → Paired G l₁ l₂
  | _, _, .nil, _ => .nil
  | _, _, .cons r t, f => .cons (f _ _ r) (Paired.mapP t f)
/-- what an object's description leans on: its own object, its own dict, the tuples -/
theorem ObjOk.stay (x : ObjOk P w H h a o) (k : ∀ b u, (b = a ∨ H b = some (.own a)) → h.get? b = some u → h'.get? b = some u)
    (ho : ∀ b, H b = some (.own a) → H' b = some (.own a)) (ht : ∀ b xs, H b = some (.tup xs) → H' b = some (.tup xs)) : ObjOk P w H' h' a o := by
  induction o with
  | lst xs => obtain ⟨z, its, n, r, e⟩ := x; exact ⟨z, its, n, r, k _ _ (.inl rfl) e⟩
  | tup xs => obtain ⟨z, its, r, ob, e, c⟩ := x; exact ⟨z, its, r, ob, k _ _ (.inl rfl) e, c⟩
  | dK kvs => obtain ⟨z, y, vs, r, ob, es, ep, e, c⟩ := x; exact ⟨z, y, vs, r, ob, es, ep, k _ _ (.inl rfl) e, c⟩
  | dT kvs =>
    obtain ⟨z, y, xs, r, ob, es, ep, e, c⟩ := x
    exact ⟨z, y, xs, Paired.mapP r fun p q z => ⟨z.1, ht _ _ z.2.1, z.2.2⟩, ob, es, ep, k _ _ (.inl rfl) e, c⟩
  | set S n => obtain ⟨ob, es, ep, t, e, c⟩ := x; exact ⟨ob, es, ep, t, k _ _ (.inl rfl) e, c⟩
  | ins C dx fs =>
    obtain ⟨d, z, ne, e, mA, ⟨od, es, ep, e2, c⟩, r⟩ := x
    exact ⟨ho _ d, z, ne, k _ _ (.inl rfl) e, mA, ⟨od, es, ep, k _ _ (.inr d) e2, c⟩, r⟩
  | own y => obtain ⟨ob, e⟩ := x; exact ⟨ob, k _ _ (.inl rfl) e⟩
  | xd fs => obtain ⟨mA, ⟨od, es, ep, e, c⟩, r⟩ := x; exact ⟨mA, ⟨od, es, ep, k _ _ (.inl rfl) e, c⟩, r⟩
  | rng lo hi => obtain ⟨t, u, v, e⟩ := x; exact ⟨t, u, v, k _ _ (.inl rfl) e⟩
  | frz ob u ih => obtain ⟨e, q⟩ := x; exact ⟨k _ _ (.inl rfl) e, ih q⟩
  | tbl ps =>
    have e : h.get? a = some { cls := .none, data := .fields ps } := x
    show h'.get? a = some { cls := .none, data := .fields ps }
    exact k a _ (.inl rfl) e
  | met f y =>
    have e : h.get? a = some (PySem.W.methodObj (.ref f) (.ref y)) := x
    show h'.get? a = some (PySem.W.methodObj (.ref f) (.ref y))
    exact k a _ (.inl rfl) e
  | ext φ => obtain ⟨p, ⟨o, e⟩, st⟩ := x; exact ⟨st _ _ p fun o q => k _ _ (.inl rfl) q, ⟨o, k _ _ (.inl rfl) e⟩, st⟩
theorem HOk.lt (x : HOk P w H h) (e : H a = some o) : a < h.objs.size := (x a o e).lt
theorem HOk.fresh (x : HOk P w H h) (e : h.objs.size ≤ a) : H a = none := by
  cases q : H a with
  | none => rfl
  | some u => exact absurd (Nat.lt_of_lt_of_le (x.lt q) e) (Nat.lt_irrefl _)
/-- every object of the heap is kept -/
theorem HOk.kept (x : HOk P w H h) (k : ∀ b u, h.get? b = some u → h'.get? b = some u) : HOk P w H h' := fun a o e =>
  (x a o e).stay (fun b u _ q => k b u q) (fun _ q => q) fun _ _ q => q
/-- a new object is laid and tracked -/
theorem HOk.laid (x : HOk P w H h) (k : ∀ b u, h.get? b = some u → h'.get? b = some u) (hp : h.objs.size ≤ a) (new : ObjOk P w (upd H a o) h' a o) : HOk P w (upd H a o) h' := fun b u e => by
  have hn := x.fresh hp
  by_cases hb : b = a
  · subst hb; rw [upd_same] at e; cases e; exact new
  · rw [upd_ne hb] at e
    exact (x b u e).stay (fun c v _ q => k c v q) (fun c q => by rw [upd_ne (ne_of_none q hn)]; exact q) fun c xs q => by rw [upd_ne (ne_of_none q hn)]; exact q
end

/-- what may be read as u: it is u, or a known u -/
def Rd (H : Hp) (a : Addr) (u : HO) : Prop := H a = some u ∨ ∃ o, H a = some (.frz o u)
theorem Rd.ok {P : Program} {w : World} {H : Hp} {h : Heap} {a : Addr} {u : HO} (r : Rd H a u) (x : HOk P w H h) : ObjOk P w H h a u := by
  rcases r with r | ⟨o, r⟩
  · exact x a u r
  · obtain ⟨_, q⟩ := x a _ r
    exact q
/-- what may be written -/
def Mut : Option HO → Prop
  | some (.lst _) => True
  | some (.dK _) => True
  | some (.dT _) => True
  | some (.set _ _) => True
  | some (.ins _ _ _) => True
  | some (.ext _) => True
  | _ => False
section
variable {P : Program} {w : World} {H : Hp} {h h' : Heap} {x e : Addr} {o' : HO}
/-- the object at e is changed: x itself, or the dict of the instance x -/
theorem HOk.write (ok : HOk P w H h) (mu : Mut (H x)) (he : e = x ∨ H e = some (.own x)) (k : ∀ b u, b ≠ e → h.get? b = some u → h'.get? b = some u) (heo : ∃ u, h'.get? e = some u)
    (new : ObjOk P w (upd H x o') h' x o') : HOk P w (upd H x o') h' := fun b u q => by
  have nown : ∀ c y, H c = some (.own y) → c ≠ x := fun c y r z => by subst z; rw [r] at mu; exact mu
  have ntup : ∀ c xs, H c = some (.tup xs) → c ≠ x := fun c xs r z => by subst z; rw [r] at mu; exact mu
  by_cases hb : b = x
  · subst hb; rw [upd_same] at q; cases q; exact new
  · rw [upd_ne hb] at q
    by_cases hbe : b = e
    · have q' : H b = some (.own x) := by
        rcases he with z | z
        · exact absurd (hbe.trans z) hb
        · rw [hbe]; exact z
      rw [q] at q'; cases q'
      obtain ⟨v, hv⟩ := heo
      exact ⟨v, by rw [hbe]; exact hv⟩
    · refine (ok b u q).stay (fun c v hc r => k c v ?_ r) (fun c r => by rw [upd_ne (nown c b r)]; exact r) fun c xs r => by rw [upd_ne (ntup c xs r)]; exact r
      rcases hc with rfl | hc
      · exact hbe
      · rintro rfl
        rcases he with z | z
        · exact nown c b hc z
        · rw [hc] at z; cases z; exact hb rfl
end

/-! ### kept unless tracked; of the frames at fs (the callers') the slots may change (an exception that passes writes there); of the records at ex (iterators) nothing is said -/
structure Un (fs ex : List Addr) (H H' : Hp) (h h' : Heap) : Prop where
  keep : ∀ b o, h.get? b = some o → H b = none → b ∉ fs → b ∉ ex → h'.get? b = some o
  slot : ∀ b o, h.get? b = some o → H b = none → b ∈ fs → b ∉ ex → ∃ sl, h'.get? b = some { o with slots := sl }
  free : ∀ b o, h.get? b = some o → H b = none → b ∉ ex → H' b = none
  there : ∀ b o, h.get? b = some o → b ∉ ex → ∃ o', h'.get? b = some o'
  tups : ∀ b xs, H b = some (.tup xs) → H' b = some (.tup xs)
  frzs : ∀ b o u, H b = some (.frz o u) → H' b = some (.frz o u)
  tbls : ∀ b ps, H b = some (.tbl ps) → ∃ more, H' b = some (.tbl (ps ++ more))
section
variable {fs fs' ex ex' : List Addr} {H H1 H2 : Hp} {h h1 h2 h' : Heap} {a x e : Addr} {o : HO}
theorem Un.any (u : Un fs ex H H1 h h1) {b : Addr} {ob : Obj} (q : h.get? b = some ob) (n : H b = none) (hx : b ∉ ex) : ∃ sl, h1.get? b = some { ob with slots := sl } := by
  by_cases hb : b ∈ fs
  · exact u.slot b ob q n hb hx
  · exact ⟨ob.slots, u.keep b ob q n hb hx⟩
theorem Un.kept (k : ∀ b u, h.get? b = some u → h'.get? b = some u) : Un fs ex H H h h' :=
  ⟨fun b ob q _ _ _ => k b ob q, fun b ob q _ _ _ => ⟨ob.slots, k b ob q⟩, fun _ _ _ n _ => n, fun b ob q _ => ⟨ob, k b ob q⟩, fun _ _ q => q, fun _ _ _ q => q, fun _ ps q => ⟨#[], by rw [q]; simp⟩⟩
theorem Un.refl : Un fs ex H H h h := Un.kept fun _ _ q => q
theorem Un.laid (k : ∀ b u, h.get? b = some u → h'.get? b = some u) (hp : h.objs.size ≤ a) (hn : H a = none) : Un fs ex H (upd H a o) h h' where
  keep := fun b u q _ _ _ => k b u q
  slot := fun b u q _ _ _ => ⟨u.slots, k b u q⟩
  free := fun b u q n _ => by rw [upd_ne (Nat.ne_of_lt (Nat.lt_of_lt_of_le (Heap.lt_size q) hp))]; exact n
  there := fun b u q _ => ⟨u, k b u q⟩
  tups := fun b xs q => by rw [upd_ne (ne_of_none q hn)]; exact q
  frzs := fun b u xs q => by rw [upd_ne (ne_of_none q hn)]; exact q
  tbls := fun b ps q => ⟨#[], by rw [upd_ne (ne_of_none q hn), q]; simp⟩
theorem Un.write (mu : Mut (H x)) (he : e = x ∨ H e = some (.own x)) (k : ∀ b u, b ≠ e → h.get? b = some u → h'.get? b = some u) (heo : ∃ u, h'.get? e = some u) : Un fs ex H (upd H x o) h h' := by
  have hx : ∀ b, H b = none → b ≠ x := fun b n z => by subst z; rw [n] at mu; exact mu
  have hb : ∀ b, H b = none → b ≠ e := fun b n z => by
    subst z
    rcases he with r | r
    · exact hx b n r
    · rw [n] at r; cases r
  have hm : ∀ b u, H b = some u → ¬ Mut (some u) → b ≠ x := fun b u q nm z => by subst z; rw [q] at mu; exact nm mu
  refine ⟨fun b u q n _ _ => k b u (hb b n) q, fun b u q n _ _ => ⟨u.slots, k b u (hb b n) q⟩, fun b u q n _ => by rw [upd_ne (hx b n)]; exact n, fun b u q _ => ?_,
    fun b xs q => by rw [upd_ne (hm b _ q fun z => z)]; exact q, fun b u xs q => by rw [upd_ne (hm b _ q fun z => z)]; exact q, fun b ps q => ⟨#[], by rw [upd_ne (hm b _ q fun z => z), q]; simp⟩⟩
  by_cases hbe : b = e
  · subst hbe; exact heo
  · exact ⟨u, k b u hbe q⟩
end

/-! ### the heap without what is tracked -/
def trk (h : Heap) (H : Hp) : List Addr := (List.range h.objs.size).filter fun a => (H a).isSome
def hidT (h : Heap) (H : Hp) : Heap := PySem.W.hideAll h (trk h H)
theorem hidT_size (h : Heap) (H : Hp) : (hidT h H).objs.size = h.objs.size := PySem.W.hideAll_size _ _
theorem hidT_get {h : Heap} {H : Hp} {b : Addr} {o : Obj} (e : h.get? b = some o) (n : H b = none) : (hidT h H).get? b = some o :=
  PySem.W.hideAll_get _ e fun hm => by
    have q : (H b).isSome = true := (List.mem_filter.mp hm).2
    rw [n] at q; simp at q
theorem of_hidT {h : Heap} {H : Hp} {b : Addr} {o : Obj} (e : (hidT h H).get? b = some o) : h.get? b = some o ∧ H b = none := by
  have e' : h.get? b = some o := PySem.W.of_hideAll (trk h H) e
  refine ⟨e', ?_⟩
  cases q : H b with
  | none => rfl
  | some x =>
    have hm : b ∈ trk h H := List.mem_filter.mpr ⟨List.mem_range.mpr (Heap.lt_size e'), by simp [q]⟩
    have z : (hidT h H).get? b = none := PySem.W.hideAll_none (trk h H) hm
    rw [z] at e; cases e

/-! ### OpenK's ledger, filled with every new object but one -/
def allNews (g h : Heap) (L : Addr) : List (Addr × Obj) := (List.range h.objs.size).filterMap fun a => if a = L ∨ (g.get? a).isSome = true then none else (h.get? a).map fun o => (a, o)
def rest (g h : Heap) (L d : Addr) : List (Addr × Obj) := (allNews g h L).filter fun p => decide (p.1 ≠ d)
end L2

namespace L2
open PySem PySem.Spec PyProof.Rows

/-- the module's facts, over the base: the heap at the law's entry without what is tracked there -/
structure Mod (K : PySem.W.Frag) (mg : Str → Option Value) (base : Heap) : Prop where
  kin : K.In base
  glob : base.Ns mainGlobals mg
  blt : ∃ mb, base.Ns builtinsNs mb ∧ ∀ x : Str, x ≠ "__name__" → mb x = bootBuiltins x
  nolimit : base.NoLimit

/-- the context: a def's body (or a comprehension's block) running. base: fixed through the whole law; s₀, H₀: the entry; outer: the frames whose slots others may change (a def's callers); stack: all frames that run;
   ex: iterators that were made ahead of the entry and are walked here (a comprehension's); fn: the names whose cells were made at the entry (a def: all; a comprehension's block: its own); calm: not within an except suite; pn: pins that every state bears; xe: what is wanted of an exception that leaves the code -/
structure Cx where
  prog : Program
  w : World
  K : PySem.W.Frag
  mg : Str → Option Value
  base : Heap
  A : Around
  N : List Str
  s₀ : Shared
  H₀ : Hp
  env : Env
  outer : List Env
  stack : List Env
  ex : List Addr
  fn : Str → Bool
  calm : Bool
  pn : List (Addr × Obj)
  xe : Value → Shared → Prop
/-- the callers' frames -/
def frs (l : List Env) : List Addr := l.filterMap (·.frame)
abbrev Cx.fs (X : Cx) : List Addr := frs X.outer

def Vis (sc : Scope) (x : Str) : Prop := sc.names.lookup x = some .local ∨ sc.names.lookup x = some .cell ∨ sc.names.lookup x = some .free
def Loc (sc : Scope) (x : Str) : Prop := sc.names.lookup x = some .local ∨ sc.names.lookup x = some .cell
def Look (env : Env) (h : Heap) (m : Str → Option Value) (x : Str) (u : Value) : Prop :=
  (env.kindOf x = some .local ∧ m x = some u) ∨ ((env.kindOf x = some .cell ∨ env.kindOf x = some .free) ∧ ∃ c, env.cells.lookup x = some c ∧ h.IsCell c (some u))

structure Cx.Ok (X : Cx) : Prop where
  mod : Mod X.K X.mg X.base
  kind : X.env.scope.kind = .function
  glob : X.env.globals = mainGlobals
  blt : X.env.builtins = builtinsNs
  above : X.s₀.heap.objs.size ≤ X.env.locals
  inj : ∀ x y c, X.env.cells.lookup x = some c → X.env.cells.lookup y = some c → x = y
  has : ∀ x, (X.env.kindOf x = some .cell ∨ X.env.kindOf x = some .free) → ∃ c, X.env.cells.lookup x = some c
  cab : ∀ x c, X.fn x = true → X.env.cells.lookup x = some c → X.s₀.heap.objs.size ≤ c
  hd : X.calm = true → X.A.handled = none
  frames : X.A.frames = some X.stack
  stk : X.stack = X.outer ∨ (X.stack = X.env :: X.outer ∧ X.env.frame = some X.env.locals)
  exf : ∀ b ∈ X.ex, b ≠ X.env.locals ∧ ∀ x c, X.env.cells.lookup x = some c → c ≠ b
  bs : ∀ b o, X.base.get? b = some o → X.s₀.heap.get? b = some o ∧ X.H₀ b = none
  bsz : X.base.objs.size ≤ X.s₀.heap.objs.size
  noex : ∀ b o, X.base.get? b = some o → b ∉ X.ex
  exfs : ∀ b ∈ X.ex, b ∉ X.fs
  funs : X.s₀.heap.FunFrames X.base X.outer
  frf : ∀ b ∈ X.fs, X.H₀ b = none

structure Inv (X : Cx) (pins : List (Addr × Obj)) (σ : List (Option V)) (H : Hp) (s : Shared) : Prop where
  ok : X.Ok
  os : s.os = X.s₀.os
  bare : AllBare s.gens
  base : Un X.fs X.ex X.H₀ H X.s₀.heap s.heap
  loc : ∃ m, s.heap.Ns X.env.locals m ∧ ∀ (i : Nat) (x : Str) (v : V), X.N[i]? = some x → σ[i]? = some (some v) → Vis X.env.scope x → ∃ u, RelV v u ∧ Look X.env s.heap m x u
  cell : ∀ x c, X.env.cells.lookup x = some c → ∃ v, s.heap.IsCell c v
  free : H X.env.locals = none
  freeC : ∀ x c, X.env.cells.lookup x = some c → H c = none
  pin : ∀ p ∈ X.pn ++ pins, s.heap.get? p.1 = some p.2 ∧ H p.1 = none ∧ p.1 ≠ X.env.locals ∧ p.1 ∉ X.fs ∧ ∀ v, p.2.data ≠ .cell v
  hok : HOk X.prog X.w H s.heap
  len : σ.length = X.N.length

section
variable {X : Cx} {pins : List (Addr × Obj)} {σ : List (Option V)} {H H' : Hp} {s : Shared} {h' : Heap}

theorem Cx.Ok.nofr (ok : X.Ok) {b : Addr} {o : Obj} (e : X.base.get? b = some o) : b ∉ X.fs := fun hb => by
  have := (ok.funs.mem hb).1
  rw [e] at this; cases this
theorem Inv.bs (I : Inv X pins σ H s) : ∀ b o, X.base.get? b = some o → s.heap.get? b = some o ∧ H b = none := fun b o e =>
  ⟨I.base.keep b o (I.ok.bs b o e).1 (I.ok.bs b o e).2 (I.ok.nofr e) (I.ok.noex b o e), I.base.free b o (I.ok.bs b o e).1 (I.ok.bs b o e).2 (I.ok.noex b o e)⟩
theorem Inv.bk (I : Inv X pins σ H s) : ∀ b o, X.base.get? b = some o → s.heap.get? b = some o := fun b o e => (I.bs b o e).1
theorem Inv.mod (I : Inv X pins σ H s) : Mod X.K X.mg X.base := I.ok.mod
theorem Inv.kIn (I : Inv X pins σ H s) : X.K.In s.heap := I.ok.mod.kin.keeps I.bk
theorem Inv.lt (I : Inv X pins σ H s) : X.env.locals < s.heap.objs.size := let ⟨_, hn, _⟩ := I.loc; hn.lt
theorem Inv.sz (I : Inv X pins σ H s) : X.s₀.heap.objs.size ≤ s.heap.objs.size := Nat.le_trans I.ok.above (Nat.le_of_lt I.lt)
theorem Inv.nofs (I : Inv X pins σ H s) {a : Addr} (h : s.heap.objs.size ≤ a) : a ∉ X.fs := fun hb => by
  obtain ⟨_, o, ho, _⟩ := I.ok.funs.mem hb
  exact absurd (Nat.lt_of_lt_of_le (Heap.lt_size ho) (Nat.le_trans I.sz h)) (Nat.lt_irrefl _)
theorem Inv.cne (I : Inv X pins σ H s) : ∀ x c, X.env.cells.lookup x = some c → c ≠ X.env.locals := fun x c e z => by
  obtain ⟨v, o, ho, hd⟩ := I.cell x c e
  obtain ⟨m, ⟨o', es, ep, ho', hd', _⟩, _⟩ := I.loc
  rw [z, ho'] at ho; cases ho; rw [hd'] at hd; cases hd
theorem Inv.funs (I : Inv X pins σ H s) : s.heap.FunFrames X.base X.outer := by
  have all : ∀ (l : List Env), (∀ b ∈ frs l, b ∈ X.fs) → X.s₀.heap.FunFrames X.base l → s.heap.FunFrames X.base l := by
    intro l
    induction l with
    | nil => intro _ _; trivial
    | cons env r ih =>
      intro hs hl
      obtain ⟨hk, ⟨L, o, hf, hn, ho, hd⟩, hr⟩ := hl
      have hL : L ∈ X.fs := hs L (by unfold frs; rw [List.filterMap_cons, hf]; exact List.mem_cons_self)
      obtain ⟨sl, e⟩ := I.base.slot L o ho (I.ok.frf L hL) hL fun z => I.ok.exfs L z hL
      exact ⟨hk, ⟨L, _, hf, hn, e, hd⟩, ih (fun b hb => hs b (by unfold frs; rw [List.filterMap_cons, hf]; exact List.mem_cons_of_mem _ hb)) hr⟩
  exact all X.outer (fun _ hb => hb) I.ok.funs

/-- the frames that run, for a call -/
theorem Inv.stack (I : Inv X pins σ H s) : s.heap.FunFrames X.base X.stack := by
  rcases I.ok.stk with e | ⟨e, hf⟩
  · rw [e]; exact I.funs
  · rw [e]
    obtain ⟨m, hn, _⟩ := I.loc
    refine .cons (by rw [I.ok.kind]; decide) hf hn ?_ I.funs
    exact Heap.get?_none_of_le (Nat.le_trans I.ok.bsz I.ok.above)
theorem Inv.stkSub (I : Inv X pins σ H s) : ∀ b ∈ frs X.stack, b ∈ X.env.locals :: X.fs := fun b hb => by
  rcases I.ok.stk with e | ⟨e, hf⟩
  · rw [e] at hb; exact List.mem_cons_of_mem _ hb
  · rw [e] at hb
    unfold frs at hb
    rw [List.filterMap_cons, hf] at hb
    exact hb
theorem Inv.stkFree (I : Inv X pins σ H s) : ∀ b ∈ frs X.stack, H b = none := fun b hb => by
  rcases List.mem_cons.mp (I.stkSub b hb) with e | hb
  · rw [e]; exact I.free
  · obtain ⟨_, o, ho, _⟩ := I.ok.funs.mem hb
    exact I.base.free b o ho (I.ok.frf b hb) fun z => I.ok.exfs b z hb

/-- THE STEP: the untracked objects but the frame and the records at ch are kept (the callers' frames up to slots), the frame's map is kept, the new abstract heap is held -/
theorem Inv.step {g' : Array GenState} {t' : Nat} {d' : Drawn} {ch : List Addr} (I : Inv X pins σ H s)
    (hch : ∀ b ∈ ch, (b ∈ X.ex ∨ X.s₀.heap.objs.size ≤ b) ∧ b ≠ X.env.locals ∧ (∀ x c, X.env.cells.lookup x = some c → c ≠ b) ∧ ∀ p ∈ X.pn ++ pins, p.1 ≠ b)
    (keep : ∀ b o, b ≠ X.env.locals → b ∉ X.fs → b ∉ ch → s.heap.get? b = some o → H b = none → h'.get? b = some o)
    (slot : ∀ b o, b ≠ X.env.locals → b ∈ X.fs → b ∉ ch → s.heap.get? b = some o → H b = none → ∃ sl, h'.get? b = some { o with slots := sl }) (free : ∀ b o, b ∉ ch → s.heap.get? b = some o → H b = none → H' b = none)
    (there : ∀ b o, b ∉ ch → s.heap.get? b = some o → ∃ o', h'.get? b = some o')
    (tups : ∀ b xs, H b = some (.tup xs) → H' b = some (.tup xs)) (frzs : ∀ b o u, H b = some (.frz o u) → H' b = some (.frz o u)) (tbls : ∀ b ps, H b = some (.tbl ps) → ∃ more, H' b = some (.tbl (ps ++ more)))
    (ns : ∀ m, s.heap.Ns X.env.locals m → h'.Ns X.env.locals m) (hok : HOk X.prog X.w H' h') (hg : AllBare g') :
    Inv X pins σ H' { s with heap := h', gens := g', drawn := d', toks := t' } := by
  have neL : ∀ b o, X.s₀.heap.get? b = some o → b ≠ X.env.locals := fun b o e => Nat.ne_of_lt (Nat.lt_of_lt_of_le (Heap.lt_size e) I.ok.above)
  have neC : ∀ b o, X.s₀.heap.get? b = some o → b ∉ X.ex → b ∉ ch := fun b o e hx hb => by
    rcases (hch b hb).1 with z | z
    · exact hx z
    · exact absurd (Nat.lt_of_lt_of_le (Heap.lt_size e) z) (Nat.lt_irrefl _)
  have cellK : ∀ x c, X.env.cells.lookup x = some c → ∀ v, s.heap.IsCell c v → h'.IsCell c v := fun x c e v ⟨o, ho, hd⟩ => by
    have nch : c ∉ ch := fun z => (hch c z).2.2.1 x c e rfl
    by_cases hc : c ∈ X.fs
    · obtain ⟨sl, q⟩ := slot c o (I.cne x c e) hc nch ho (I.freeC x c e)
      exact ⟨_, q, hd⟩
    · exact ⟨o, keep c o (I.cne x c e) hc nch ho (I.freeC x c e), hd⟩
  refine ⟨I.ok, I.os, hg, ⟨fun b o e n hb hx => ?_, fun b o e n hb hx => ?_, fun b o e n hx => ?_, fun b o e hx => ?_, fun b xs e => tups b xs (I.base.tups b xs e), fun b o xs e => frzs b o xs (I.base.frzs b o xs e), fun b ps e => ?_⟩, ?_, fun x c e => ?_, ?_, fun x c e => ?_, fun p hp => ?_, hok, I.len⟩
  · exact keep b o (neL b o e) hb (neC b o e hx) (I.base.keep b o e n hb hx) (I.base.free b o e n hx)
  · obtain ⟨sl, e1⟩ := I.base.slot b o e n hb hx
    obtain ⟨sl', e2⟩ := slot b _ (neL b o e) hb (neC b o e hx) e1 (I.base.free b o e n hx)
    exact ⟨sl', e2⟩
  · obtain ⟨o', e1⟩ := I.base.there b o e hx
    exact free b o' (neC b o e hx) e1 (I.base.free b o e n hx)
  · obtain ⟨o', e1⟩ := I.base.there b o e hx
    exact there b o' (neC b o e hx) e1
  · obtain ⟨m1, e1⟩ := I.base.tbls b ps e
    obtain ⟨m2, e2⟩ := tbls b _ e1
    exact ⟨m1 ++ m2, by rw [e2, Array.append_assoc]⟩
  · obtain ⟨m, hn, hl⟩ := I.loc
    refine ⟨m, ns m hn, fun i x v e1 e2 e3 => ?_⟩
    obtain ⟨u, r, l⟩ := hl i x v e1 e2 e3
    refine ⟨u, r, ?_⟩
    rcases l with l | ⟨k, c, e, z⟩
    · exact .inl l
    · exact .inr ⟨k, c, e, cellK x c e _ z⟩
  · obtain ⟨v, z⟩ := I.cell x c e
    exact ⟨v, cellK x c e v z⟩
  · obtain ⟨m, ⟨o, _, _, ho, _⟩, _⟩ := I.loc
    exact free _ o (fun z => (hch _ z).2.1 rfl) ho I.free
  · obtain ⟨v, o, ho, hd⟩ := I.cell x c e
    exact free c o (fun z => (hch c z).2.2.1 x c e rfl) ho (I.freeC x c e)
  · obtain ⟨e, n, ne, nf, d⟩ := I.pin p hp
    have nch : p.1 ∉ ch := fun z => (hch p.1 z).2.2.2 p hp rfl
    exact ⟨keep p.1 p.2 ne nf nch e n, free p.1 p.2 nch e n, ne, nf, d⟩
/-- .. where the frame's own object is kept too -/
theorem Inv.un {t' : Nat} (I : Inv X pins σ H s) (u : Un X.fs [] H H' s.heap h') (hok : HOk X.prog X.w H' h') : Inv X pins σ H' { s with heap := h', toks := t' } := by
  obtain ⟨m, ⟨o, es, ep, ho, r⟩, _⟩ := id I.loc
  obtain ⟨sl, hL⟩ := u.any ho I.free (by simp)
  exact I.step (g' := s.gens) (d' := s.drawn) (ch := []) (fun _ z => nomatch z) (fun b o _ hb _ e n => u.keep b o e n hb (by simp)) (fun b o _ hb _ e n => u.slot b o e n hb (by simp)) (fun b o _ e n => u.free b o e n (by simp)) (fun b o _ e => u.there b o e (by simp)) u.tups u.frzs u.tbls (fun m' hm => by
    obtain ⟨o', es', ep', ho', r'⟩ := hm
    rw [ho] at ho'; cases ho'
    exact ⟨_, es', ep', hL, r'⟩) hok I.bare
/-- behind a call (or a comprehension's block): the slots of this frame may have changed too, the records at ch may have turned -/
theorem Inv.call {g' : Array GenState} {t' : Nat} {d' : Drawn} {ch : List Addr} (I : Inv X pins σ H s) (u : Un (frs X.stack) ch H H' s.heap h') (hok : HOk X.prog X.w H' h') (hg : AllBare g')
    (hch : ∀ b ∈ ch, (b ∈ X.ex ∨ X.s₀.heap.objs.size ≤ b) ∧ b ≠ X.env.locals ∧ (∀ x c, X.env.cells.lookup x = some c → c ≠ b) ∧ ∀ p ∈ X.pn ++ pins, p.1 ≠ b) :
    Inv X pins σ H' { s with heap := h', gens := g', drawn := d', toks := t' } := by
  obtain ⟨m, ⟨o, es, ep, ho, r⟩, _⟩ := id I.loc
  obtain ⟨sl, hL⟩ := u.any ho I.free fun z => (hch _ z).2.1 rfl
  exact I.step (ch := ch) hch (fun b o hL hb hc e n => u.keep b o e n (fun z => (List.mem_cons.mp (I.stkSub b z)).elim hL hb) hc) (fun b o _ _ hc e n => u.any e n hc) (fun b o hc e n => u.free b o e n hc) (fun b o hc e => u.there b o e hc) u.tups u.frzs u.tbls (fun m' hm => by
    obtain ⟨o', es', ep', ho', r'⟩ := hm
    rw [ho] at ho'; cases ho'
    exact ⟨_, es', ep', hL, r'⟩) hok hg
/-- an untracked record of ours (an iterator) has turned -/
theorem Inv.turned {t' : Nat} {it : Addr} (I : Inv X pins σ H s) (k : ∀ b o, b ≠ it → s.heap.get? b = some o → h'.get? b = some o) (hn : H it = none) (hL : it ≠ X.env.locals)
    (h1 : it ∈ X.ex ∨ X.s₀.heap.objs.size ≤ it) (h2 : ∀ x c, X.env.cells.lookup x = some c → c ≠ it) (h3 : ∀ p ∈ X.pn ++ pins, p.1 ≠ it) : Inv X pins σ H { s with heap := h', toks := t' } := by
  have nit : ∀ b u, H b = some u → b ≠ it := fun b u e z => by rw [z, hn] at e; cases e
  refine I.step (g' := s.gens) (d' := s.drawn) (ch := [it]) (fun b hb => ?_) (fun b o _ _ hc e _ => k b o (fun z => hc (by simp [z])) e) (fun b o _ _ hc e _ => ⟨o.slots, k b o (fun z => hc (by simp [z])) e⟩) (fun _ _ _ _ n => n)
    (fun b o hc e => ⟨o, k b o (fun z => hc (by simp [z])) e⟩) (fun _ _ e => e) (fun _ _ _ e => e) (fun b ps e => ⟨#[], by rw [e]; simp⟩) (fun m hm => ?_) (fun b u e => ?_) I.bare
  · have e : b = it := by simpa using hb
    subst e
    exact ⟨h1, hL, h2, h3⟩
  · obtain ⟨o, es, ep, ho, r⟩ := hm
    exact ⟨o, es, ep, k _ o (Ne.symm hL) ho, r⟩
  · refine (I.hok b u e).stay (fun c v hc q => k c v ?_ q) (fun _ q => q) fun _ _ q => q
    rcases hc with z | z
    · rw [z]; exact nit b u e
    · exact nit c _ z
theorem Inv.tok (I : Inv X pins σ H s) (t : Nat) : Inv X pins σ H { s with toks := t } := I.un (h' := s.heap) (t' := t) Un.refl I.hok
/-- all objects kept -/
theorem Inv.kept {t' : Nat} (I : Inv X pins σ H s) (k : ∀ b u, s.heap.get? b = some u → h'.get? b = some u) : Inv X pins σ H { s with heap := h', toks := t' } := I.un (Un.kept k) (I.hok.kept k)
/-- a new object laid and tracked -/
theorem Inv.laid {a : Addr} {o : HO} {t' : Nat} (I : Inv X pins σ H s) (k : ∀ b u, s.heap.get? b = some u → h'.get? b = some u) (hp : s.heap.objs.size ≤ a) (new : ObjOk X.prog X.w (upd H a o) h' a o) :
    Inv X pins σ (upd H a o) { s with heap := h', toks := t' } := I.un (Un.laid k hp (I.hok.fresh hp)) (I.hok.laid k hp new)
/-- an object written -/
theorem Inv.write {x e : Addr} {o : HO} {t' : Nat} (I : Inv X pins σ H s) (mu : Mut (H x)) (he : e = x ∨ H e = some (.own x)) (k : ∀ b u, b ≠ e → s.heap.get? b = some u → h'.get? b = some u) (heo : ∃ u, h'.get? e = some u)
    (new : ObjOk X.prog X.w (upd H x o) h' x o) : Inv X pins σ (upd H x o) { s with heap := h', toks := t' } := I.un (Un.write mu he k heo) (I.hok.write mu he k heo new)
/-- forgetting slots, pins -/
theorem Inv.weak {σ' : List (Option V)} (I : Inv X pins σ H s) (hl : σ'.length = σ.length) (w : ∀ (i : Nat) v, σ'[i]? = some (some v) → σ[i]? = some (some v)) : Inv X pins σ' H s :=
  ⟨I.ok, I.os, I.bare, I.base, let ⟨m, hn, hl'⟩ := I.loc; ⟨m, hn, fun i x v e1 e2 e3 => hl' i x v e1 (w i v e2) e3⟩, I.cell, I.free, I.freeC, I.pin, I.hok, hl.trans I.len⟩
theorem Inv.pins_of {pins' : List (Addr × Obj)} (I : Inv X pins σ H s) (h : ∀ p ∈ pins', s.heap.get? p.1 = some p.2 ∧ H p.1 = none ∧ p.1 ≠ X.env.locals ∧ p.1 ∉ X.fs ∧ ∀ v, p.2.data ≠ .cell v) : Inv X pins' σ H s :=
  ⟨I.ok, I.os, I.bare, I.base, I.loc, I.cell, I.free, I.freeC, fun p hp => (List.mem_append.mp hp).elim (fun z => I.pin p (List.mem_append_left _ z)) (h p), I.hok, I.len⟩

theorem nodup_ix {N : List Str} (hN : N.Nodup) {i j : Nat} {x : Str} (a : N[i]? = some x) (b : N[j]? = some x) : i = j := by
  obtain ⟨h1, e1⟩ := List.getElem?_eq_some_iff.mp a
  obtain ⟨h2, e2⟩ := List.getElem?_eq_some_iff.mp b
  exact (List.getElem_inj hN).mp (e1.trans e2.symm)

/-- a name is stored; what changed -/
theorem store_ok2 {M : Model} {A : Around} {E : Value → Shared → Prop} {i : Nat} {x : Str} {v : V} {u : Value} {Q : Unit → Shared → Prop} (I : Inv X pins σ H s) (hN : X.N.Nodup) (hi : X.N[i]? = some x) (hx : Loc X.env.scope x) (r : RelV v u)
    (h : ∀ s', Inv X pins (σ.set i (some v)) H s' → (∃ a, Heap.SameBut a s.heap s'.heap ∧ (a = X.env.locals ∨ X.env.cells.lookup x = some a)) → Q () s') (hf : X.fn x = true ∨ X.env.scope.names.lookup x = some .local := by first | exact .inl rfl | exact .inr rfl | assumption) : wpAny M A (storeName X.env x u) Q E s := by
  obtain ⟨m, hn, hl⟩ := id I.loc
  have hcls : (X.env.scope.kind == .class || (X.env.scope.kind == .module && X.env.locals != X.env.globals)) = false := by rw [I.ok.kind]; rfl
  have hiσ : i < σ.length := by rw [I.len]; exact (List.getElem?_eq_some_iff.mp hi).1
  have cne := I.cne
  have tracked : ∀ {a : Addr} {h' : Heap}, (∃ o, s.heap.get? a = some o ∧ H a = none) → Heap.SameBut a s.heap h' → HOk X.prog X.w H h' := fun {a h'} ha hs b ob e => by
    obtain ⟨_, _, hfree⟩ := ha
    refine (I.hok b ob e).stay (fun c w' hc q => (hs.2 c ?_).trans q) (fun _ q => q) fun _ _ q => q
    rintro rfl
    rcases hc with rfl | hc
    · rw [hfree] at e; cases e
    · rw [hfree] at hc; cases hc
  rcases hx with hk | hk
  · refine wpAny_storeName_local hk hn (fun h' hn' hs => ?_) hcls
    obtain ⟨oL, _, _, hoL, _⟩ := id hn
    refine h _ ⟨I.ok, I.os, I.bare, ⟨fun b o e n hb hx => ?_, fun b o e n hb hx => ?_, I.base.free, fun b o e hx => ?_, I.base.tups, I.base.frzs, I.base.tbls⟩, ⟨_, hn', fun j y v' e1 e2 e3 => ?_⟩, fun y c e => ?_, I.free, I.freeC, fun p hp => ?_, tracked ⟨oL, hoL, I.free⟩ hs, by simpa using I.len⟩ ⟨_, hs, .inl rfl⟩
    · exact (hs.2 b (Nat.ne_of_lt (Nat.lt_of_lt_of_le (Heap.lt_size e) I.ok.above))).trans (I.base.keep b o e n hb hx)
    · obtain ⟨sl, e1⟩ := I.base.slot b o e n hb hx
      exact ⟨sl, (hs.2 b (Nat.ne_of_lt (Nat.lt_of_lt_of_le (Heap.lt_size e) I.ok.above))).trans e1⟩
    · obtain ⟨o', e1⟩ := I.base.there b o e hx
      exact ⟨o', (hs.2 b (Nat.ne_of_lt (Nat.lt_of_lt_of_le (Heap.lt_size e) I.ok.above))).trans e1⟩
    · by_cases hj : j = i
      · subst hj
        rw [hi] at e1; cases e1
        rw [List.getElem?_set_self hiσ] at e2
        cases e2
        exact ⟨u, r, .inl ⟨hk, by simp⟩⟩
      · rw [List.getElem?_set_ne (Ne.symm hj)] at e2
        obtain ⟨u', r', q⟩ := hl j y v' e1 e2 e3
        refine ⟨u', r', ?_⟩
        rcases q with ⟨k, e⟩ | ⟨k, c, e, z⟩
        · refine .inl ⟨k, ?_⟩
          have : y ≠ x := fun e => hj (nodup_ix hN e1 (e ▸ hi))
          simp [this, e]
        · exact .inr ⟨k, c, e, z.sameBut hs (cne y c e)⟩
    · obtain ⟨w', z⟩ := I.cell y c e
      exact ⟨w', z.sameBut hs (cne y c e)⟩
    · obtain ⟨e, n, ne, nf, d⟩ := I.pin p hp
      exact ⟨(hs.2 p.1 ne).trans e, n, ne, nf, d⟩
  · have hfn : X.fn x = true := by
      rcases hf with z | z
      · exact z
      · rw [z] at hk; cases hk
    obtain ⟨c, hc⟩ := I.ok.has x (.inl hk)
    obtain ⟨w', z⟩ := I.cell x c hc
    refine wpAny_storeName_cell I.ok.kind hk hc z (fun h' hc' hs => ?_)
    obtain ⟨oc, hoc, hocd⟩ := id z
    refine h { s with heap := h' } ⟨I.ok, I.os, I.bare, ⟨fun b o e n hb hx => ?_, fun b o e n hb hx => ?_, I.base.free, fun b o e hx => ?_, I.base.tups, I.base.frzs, I.base.tbls⟩, ⟨m, hn.sameBut hs (Ne.symm (cne x c hc)), fun j y v' e1 e2 e3 => ?_⟩, fun y c' e => ?_, I.free, I.freeC, fun p hp => ?_, tracked ⟨oc, hoc, I.freeC x c hc⟩ hs, by simpa using I.len⟩ ⟨c, hs, .inr hc⟩
    · exact (hs.2 b (Nat.ne_of_lt (Nat.lt_of_lt_of_le (Heap.lt_size e) (I.ok.cab x c hfn hc)))).trans (I.base.keep b o e n hb hx)
    · obtain ⟨sl, e1⟩ := I.base.slot b o e n hb hx
      exact ⟨sl, (hs.2 b (Nat.ne_of_lt (Nat.lt_of_lt_of_le (Heap.lt_size e) (I.ok.cab x c hfn hc)))).trans e1⟩
    · obtain ⟨o', e1⟩ := I.base.there b o e hx
      exact ⟨o', (hs.2 b (Nat.ne_of_lt (Nat.lt_of_lt_of_le (Heap.lt_size e) (I.ok.cab x c hfn hc)))).trans e1⟩
    · by_cases hj : j = i
      · subst hj
        rw [hi] at e1; cases e1
        rw [List.getElem?_set_self hiσ] at e2
        cases e2
        exact ⟨u, r, .inr ⟨.inl hk, c, hc, hc'⟩⟩
      · rw [List.getElem?_set_ne (Ne.symm hj)] at e2
        obtain ⟨u', r', q⟩ := hl j y v' e1 e2 e3
        refine ⟨u', r', ?_⟩
        rcases q with q | ⟨k, c', e, z'⟩
        · exact .inl q
        · refine .inr ⟨k, c', e, z'.sameBut hs ?_⟩
          rintro rfl
          exact hj (nodup_ix hN e1 (I.ok.inj _ _ _ e hc ▸ hi))
    · by_cases hcc : c' = c
      · subst hcc; exact ⟨_, hc'⟩
      · obtain ⟨w2, z2⟩ := I.cell y c' e
        exact ⟨w2, z2.sameBut hs hcc⟩
    · obtain ⟨e, n, ne, nf, d⟩ := I.pin p hp
      refine ⟨(hs.2 p.1 ?_).trans e, n, ne, nf, d⟩
      intro q
      rw [q, hoc] at e
      have q' : oc = p.2 := Option.some.inj e
      exact d w' (by rw [← q']; exact hocd)
theorem store_ok {M : Model} {A : Around} {E : Value → Shared → Prop} {i : Nat} {x : Str} {v : V} {u : Value} {Q : Unit → Shared → Prop} (I : Inv X pins σ H s) (hN : X.N.Nodup) (hi : X.N[i]? = some x) (hx : Loc X.env.scope x) (r : RelV v u)
    (h : ∀ s', Inv X pins (σ.set i (some v)) H s' → Q () s') (hf : X.fn x = true ∨ X.env.scope.names.lookup x = some .local := by first | exact .inl rfl | exact .inr rfl | assumption) : wpAny M A (storeName X.env x u) Q E s :=
  store_ok2 I hN hi hx r (fun s' I' _ => h s' I') hf
/-- behind a call or a block, the state as it is -/
theorem Inv.call' {s' : Shared} {ch : List Addr} (I : Inv X pins σ H s) (ho : s'.os = s.os) (u : Un (frs X.stack) ch H H' s.heap s'.heap) (hok : HOk X.prog X.w H' s'.heap) (hg : AllBare s'.gens)
    (hch : ∀ b ∈ ch, (b ∈ X.ex ∨ X.s₀.heap.objs.size ≤ b) ∧ b ≠ X.env.locals ∧ (∀ x c, X.env.cells.lookup x = some c → c ≠ b) ∧ ∀ p ∈ X.pn ++ pins, p.1 ≠ b) : Inv X pins σ H' s' := by
  obtain ⟨h', g', d', t', o'⟩ := s'
  have e : o' = s.os := ho
  subst e
  exact I.call (g' := g') (t' := t') (d' := d') u hok hg hch
end

/-! ### the judgements -/
/-- an exception: its class, its own dict's address (where it has one), the abstract heap behind it -/
abbrev XK := Value → Option Addr → Hp → Prop
abbrev St := List (Option V)
abbrev VK := V → Hp → Prop
/-- an expression's reading; a test's; an argument list's -/
abbrev TE := St → Hp → VK → Prop
abbrev TT := St → Hp → (Bool → Hp → Prop) → Prop
abbrev TA := St → Hp → (List V → Hp → Prop) → Prop
/-- what is wanted behind a statement -/
structure Ends where
  nx : St → Hp → Prop
  rt : VK
  bk : St → Hp → Prop := fun _ _ => False
  ct : St → Hp → Prop := fun _ _ => False
abbrev TS := Ends → St → Hp → Prop

def EP (X : Cx) (pins : List (Addr × Obj)) (σ : St) (Q : VK) (u : Value) (s' : Shared) : Prop := ∃ v H', Inv X pins σ H' s' ∧ RelV v u ∧ Q v H'
def TP (X : Cx) (pins : List (Addr × Obj)) (σ : St) (Q : Bool → Hp → Prop) (b : Bool) (s' : Shared) : Prop := ∃ H', Inv X pins σ H' s' ∧ Q b H'
def AP (X : Cx) (pins : List (Addr × Obj)) (σ : St) (Q : List V → Hp → Prop) (us : List Value) (s' : Shared) : Prop := ∃ vs H', Inv X pins σ H' s' ∧ Vals vs us ∧ Q vs H'
def SP (X : Cx) (pins : List (Addr × Obj)) (D : Ends) (f : Flow) (s' : Shared) : Prop :=
  match f with
  | .next => ∃ σ' H', Inv X pins σ' H' s' ∧ D.nx σ' H'
  | .brk => ∃ σ' H', Inv X pins σ' H' s' ∧ D.bk σ' H'
  | .cont => ∃ σ' H', Inv X pins σ' H' s' ∧ D.ct σ' H'
  | .ret u => ∃ v σ' H', Inv X pins σ' H' s' ∧ RelV v u ∧ D.rt v H'

def PE (X : Cx) (e : Expr) (t : TE) : Prop :=
  ∀ (pins : List (Addr × Obj)) (s : Shared) (σ : St) (H : Hp) (Q : VK), Inv X pins σ H s → t σ H Q → wpAny (model X.prog X.w) X.A (eval e X.env) (EP X pins σ Q) X.xe s
def PT (X : Cx) (e : Expr) (t : TT) : Prop :=
  ∀ (pins : List (Addr × Obj)) (s : Shared) (σ : St) (H : Hp) (Q : Bool → Hp → Prop), Inv X pins σ H s → t σ H Q → wpAny (model X.prog X.w) X.A (isTrue e X.env (eval e X.env)) (TP X pins σ Q) X.xe s
/-- a test whatever its 'whole' is (and, or) -/
def PW (X : Cx) (e : Expr) (t : TT) : Prop :=
  ∀ (whole : Sem Value) (pins : List (Addr × Obj)) (s : Shared) (σ : St) (H : Hp) (Q : Bool → Hp → Prop), Inv X pins σ H s → t σ H Q → wpAny (model X.prog X.w) X.A (isTrue e X.env whole) (TP X pins σ Q) X.xe s
theorem PW.pt {X : Cx} {e : Expr} {t : TT} (h : PW X e t) : PT X e t := h _
/-- an argument list (no star), from the left -/
def PA (X : Cx) (es : List Expr) (t : TA) : Prop :=
  ∀ (pos : Pos) (pins : List (Addr × Obj)) (s : Shared) (σ : St) (H : Hp) (Q : List V → Hp → Prop), Inv X pins σ H s → t σ H Q → wpAny (model X.prog X.w) X.A (spliced (backTo pos (starEach es X.env))) (AP X pins σ Q) X.xe s
def PS (X : Cx) (st : Stmt) (t : TS) : Prop :=
  ∀ (pins : List (Addr × Obj)) (s : Shared) (σ : St) (H : Hp) (D : Ends), Inv X pins σ H s → t D σ H → wpAny (model X.prog X.w) X.A (exec st X.env) (SP X pins D) X.xe s
def PSs (X : Cx) (st : List Stmt) (t : TS) : Prop :=
  ∀ (pins : List (Addr × Obj)) (s : Shared) (σ : St) (H : Hp) (D : Ends), Inv X pins σ H s → t D σ H → wpAny (model X.prog X.w) X.A (execs st X.env) (SP X pins D) X.xe s
/-- weaken the end -/
theorem thn {α : Type} {t : Sem α} {Q Q' : α → Shared → Prop} {M : Model} {A : Around} {E : Value → Shared → Prop} {s : Shared} (h : wpAny M A t Q E s) (hQ : ∀ a s, Q a s → Q' a s) : wpAny M A t Q' E s := wpAny_mono h hQ fun _ _ x => x
end L2

namespace L2
open PySem PySem.Spec PyProof.Rows
section
variable {X : Cx}

/-! ### names and constants -/
def tVar (i : Nat) : TE := fun σ H Q => ∃ v, σ[i]? = some (some v) ∧ Q v H
def tC (v : V) : TE := fun _ H Q => Q v H
theorem pe_var {i : Nat} {x : Str} {pos : Pos} (hN : X.N[i]? = some x) (hv : Vis X.env.scope x) (hd : (x == ("__debug__" : Str)) = false := by decide) (hcd : (x == ("__classdict__" : Str)) = false := by decide) : PE X (.Name x pos) (tVar i) := by
  intro pins s σ H Q I h
  obtain ⟨v, e, h⟩ := h
  obtain ⟨m, hn, hl⟩ := I.loc
  obtain ⟨u, r, l⟩ := hl i x v hN e hv
  have fin : EP X pins σ Q u s := ⟨v, H, I, r, h⟩
  rcases l with ⟨hk, hm⟩ | ⟨hk, c, hc, hcell⟩
  · exact wpAny_Name (wpAny_loadName_local I.ok.kind hk hn hm fin) hd
  · rcases hk with hk | hk
    · exact wpAny_Name (wpAny_loadName_cell I.ok.kind hk hc hcell fin) hd
    · exact wpAny_Name (wpAny_loadName_free I.ok.kind hk hc hcell fin hcd) hd
theorem pe_int {i j pos} : PE X (.Constant (.int i) j pos) (tC (.int i)) := fun _ _ _ H _ I h => wpAny_Constant_int ⟨.int i, H, I.tok _, ⟨_, rfl⟩, h⟩
theorem pe_bl {b j pos} : PE X (.Constant (.bool b) j pos) (tC (.bl b)) := fun _ _ _ H _ I h => Constant_bool ⟨.bl b, H, I, rfl, h⟩
theorem pe_non {j pos} : PE X (.Constant .none j pos) (tC .non) := fun _ _ _ H _ I h => Constant_none ⟨.non, H, I, rfl, h⟩
/-- a global name of the def -/
def Gl (X : Cx) (x : Str) : Prop := X.env.kindOf x = some .globalImplicit
theorem ld_glob {E : Value → Shared → Prop} {pins : List (Addr × Obj)} {s : Shared} {σ : St} {H : Hp} {x : Str} {u : Value} {pos : Pos} {Q : Value → Shared → Prop} (I : Inv X pins σ H s) (hg : Gl X x) (hm : X.mg x = some u) (h : Q u s)
    (hd : (x == ("__debug__" : Str)) = false := by decide) : wpAny (model X.prog X.w) X.A (eval (.Name x pos) X.env) Q E s :=
  Calls.Name_function_global I.ok.kind hg (Calls.loadGlobal_global (by rw [I.ok.glob]; exact I.mod.glob.keeps I.bk) hm h) hd
theorem ld_blt {E : Value → Shared → Prop} {pins : List (Addr × Obj)} {s : Shared} {σ : St} {H : Hp} {x : Str} {u : Value} {pos : Pos} {Q : Value → Shared → Prop} (I : Inv X pins σ H s) (hg : Gl X x) (hm : X.mg x = none) (hv : bootBuiltins x = some u) (h : Q u s)
    (hn : x ≠ "__name__" := by decide) (hd : (x == ("__debug__" : Str)) = false := by decide) : wpAny (model X.prog X.w) X.A (eval (.Name x pos) X.env) Q E s := by
  obtain ⟨mb, h1, h2⟩ := I.mod.blt
  exact Calls.Name_function_global I.ok.kind hg (Calls.loadGlobal_builtin (by rw [I.ok.glob]; exact I.mod.glob.keeps I.bk) hm (by rw [I.ok.blt]; exact h1.keeps I.bk) ((h2 x hn).trans hv) h) hd
/-- a module's constant, a class, a function, as a value -/
theorem pe_glob {x : Str} {v : V} {u : Value} {pos : Pos} (hg : Gl X x) (hm : X.mg x = some u) (r : RelV v u) (hd : (x == ("__debug__" : Str)) = false := by decide) : PE X (.Name x pos) (tC v) :=
  fun _ _ _ H _ I h => ld_glob I hg hm ⟨v, H, I, r, h⟩ hd
/-! ### arithmetic -/
/-- two ints -/
def t2I (ta tb : TE) (k : Int → Int → Hp → Prop) : St → Hp → Prop := fun σ H => ta σ H fun x H1 => tb σ H1 fun y H2 => ∃ i j, x = .int i ∧ y = .int j ∧ k i j H2
def tAdd (ta tb : TE) : TE := fun σ H Q => t2I ta tb (fun i j H2 => Q (.int (i + j)) H2) σ H
def tSub (ta tb : TE) : TE := fun σ H Q => t2I ta tb (fun i j H2 => Q (.int (i - j)) H2) σ H
/-- the left factor below 2^64 -/
def tMul (ta tb : TE) : TE := fun σ H Q => t2I ta tb (fun i j H2 => (-(2 ^ 64) < i ∧ i < 2 ^ 64) ∧ Q (.int (i * j)) H2) σ H
variable {a b : Expr} {ta tb : TE} {pos : Pos}
/-! ### comparisons -/
def PC (X : Cx) (op : CmpOp) (a b : Expr) (t : TE) : Prop :=
  ∀ (pins : List (Addr × Obj)) (s : Shared) (σ : St) (H : Hp) (Q : VK), Inv X pins σ H s → t σ H Q →
    wpAny (model X.prog X.w) X.A (eval a X.env) (fun v s₁ => wpAny (model X.prog X.w) X.A (eval b X.env) (fun u s₂ => wpAny (model X.prog X.w) X.A (compareOp op v u) (EP X pins σ Q) X.xe s₂) X.xe s₁) X.xe s
def tCmp (p : Int → Int → Bool) (ta tb : TE) : TE := fun σ H Q => t2I ta tb (fun i j H2 => Q (.bl (p i j)) H2) σ H
abbrev tLt : TE → TE → TE := tCmp fun i j => decide (i < j)
abbrev tLe : TE → TE → TE := tCmp fun i j => decide (i ≤ j)
abbrev tGt : TE → TE → TE := tCmp fun i j => decide (j < i)
abbrev tGe : TE → TE → TE := tCmp fun i j => decide (j ≤ i)
abbrev tEqI : TE → TE → TE := tCmp fun i j => decide (i = j)
abbrev tNeI : TE → TE → TE := tCmp fun i j => !decide (i = j)
/-- is None -/
def tIsN (ta : TE) : TE := fun σ H Q => ta σ H fun x H1 => Q (.bl (decide (x = .non))) H1
def tNotN (ta : TE) : TE := fun σ H Q => ta σ H fun x H1 => Q (.bl (!decide (x = .non))) H1
/-- a comparison as a value, as a test -/
def tB (t : TE) : TT := fun σ H Q => t σ H fun x H1 => ∃ c, x = .bl c ∧ Q c H1
/-! ### and, or, not -/
variable {tA tB' : TT} {rest : List Expr}
def tAnd (t u : TT) : TT := fun σ H Q => t σ H fun c H1 => if c = true then u σ H1 Q else Q false H1
def tOr (t u : TT) : TT := fun σ H Q => t σ H fun c H1 => if c = true then Q true H1 else u σ H1 Q
def tNot (t : TT) : TT := fun σ H Q => t σ H fun c H1 => Q (!c) H1
theorem pw_and1 (ha : PT X a tA) : PW X (.BoolOp .And [a] pos) tA := by
  intro wh pins s σ H Q I h
  refine isTrue_and (thn (ha pins s σ H Q I h) fun c s1 e => ?_)
  cases c with
  | true => exact isTrue_and_nil e
  | false => exact e
theorem pw_and (ha : PT X a tA) (hb : PW X (.BoolOp .And (b :: rest) pos) tB') : PW X (.BoolOp .And (a :: b :: rest) pos) (tAnd tA tB') := by
  intro wh pins s σ H Q I h
  refine isTrue_and (thn (ha pins s σ H _ I h) fun c s1 ⟨H1, I1, q1⟩ => ?_)
  cases c with
  | true => exact hb wh pins s1 σ H1 Q I1 q1
  | false => exact ⟨H1, I1, q1⟩
theorem pt_not (ha : PT X a tA) : PT X (.UnaryOp .Not a pos) (tNot tA) := by
  intro pins s σ H Q I h
  exact isTrue_not (ha pins s σ H (fun c H1 => Q (!c) H1) I h)
/-- .. as values (bools) -/
def tAndV (ta tb : TE) : TE := fun σ H Q => ta σ H fun x H1 => ∃ c, x = .bl c ∧ if c = true then tb σ H1 Q else Q (.bl false) H1
def tOrV (ta tb : TE) : TE := fun σ H Q => ta σ H fun x H1 => ∃ c, x = .bl c ∧ if c = true then Q (.bl true) H1 else tb σ H1 Q
def tNotV (ta : TE) : TE := fun σ H Q => ta σ H fun x H1 => ∃ c, x = .bl c ∧ Q (.bl (!c)) H1
theorem pe_one {op} {t : TE} (h : PE X a t) : PE X (.BoolOp op [a] pos) t := fun pins s σ H Q I hw => BoolOp_one (h pins s σ H Q I hw)
theorem pe_and (ha : PE X a ta) (hb : PE X (.BoolOp .And (b :: rest) pos) tb) : PE X (.BoolOp .And (a :: b :: rest) pos) (tAndV ta tb) := by
  intro pins s σ H Q I h
  refine BoolOp_and (thn (ha pins s σ H _ I h) fun v s1 ⟨x, H1, I1, r1, q1⟩ => ?_)
  obtain ⟨c, rfl, q1⟩ := q1
  cases r1
  refine wpAny_truthy_bool ?_
  cases c with
  | true => exact hb pins s1 σ H1 Q I1 q1
  | false => exact ⟨.bl false, H1, I1, rfl, q1⟩
/-- a if t else b -/
def tIf (t : TT) (ta tb : TE) : TE := fun σ H Q => t σ H fun c H1 => if c = true then ta σ H1 Q else tb σ H1 Q
theorem pe_ifExp {c : Expr} (hc : PT X c tA) (ha : PE X a ta) (hb : PE X b tb) : PE X (.IfExp c a b pos) (tIf tA ta tb) := by
  intro pins s σ H Q I h
  refine wpAny_IfExp (thn (hc pins s σ H _ I h) fun d s1 ⟨H1, I1, q1⟩ => ?_)
  cases d with
  | true => exact ha pins s1 σ H1 Q I1 q1
  | false => exact hb pins s1 σ H1 Q I1 q1
end
end L2

namespace L2
open PySem PySem.Spec PyProof.Rows

/-! ### a list, a tuple that is read: tracked, frozen, or an object of the module -/
def SqL (K : PySem.W.Frag) (H : Hp) (a : Addr) (xs : List V) : Prop :=
  Rd H a (.lst xs) ∨
    ∃ (o : Obj) (its : Array Value) (n : Nat), K.lookup a = some o ∧ o.cls = .type "list" ∧ o.dict = none ∧ o.data = .seq its n ∧ its.size ≤ sizeLine ∧ Vals xs its.toList
def SqT (K : PySem.W.Frag) (H : Hp) (a : Addr) (xs : List V) : Prop :=
  Rd H a (.tup xs) ∨
    ∃ (o : Obj) (its : Array Value) (n : Nat), K.lookup a = some o ∧ o.cls = .type "tuple" ∧ o.data = .seq its n ∧ its.size ≤ sizeLine ∧ Vals xs its.toList
def absV : Value → Option V
  | .none => some .non
  | .bool b => some (.bl b)
  | .int i _ => some (.int i)
  | .str x _ => some (.str x)
  | .bytes b _ => some (.byt b)
  | .float b _ => some (.flt b)
  | .ref a => some (.ref a)
  | .type n => some (.ty n)
  | _ => none
theorem RelV.abs {x : V} {u : Value} (r : RelV x u) : absV u = some x := by
  cases x with
  | non => cases r; rfl
  | bl _ => cases r; rfl
  | int _ => obtain ⟨t, rfl⟩ := r; rfl
  | str _ => obtain ⟨t, rfl⟩ := r; rfl
  | byt _ => obtain ⟨t, rfl⟩ := r; rfl
  | flt _ => obtain ⟨t, rfl⟩ := r; rfl
  | ref _ => cases r; rfl
  | ty _ => cases r; rfl
theorem RelV.inj {x y : V} {u : Value} (r : RelV x u) (q : RelV y u) : x = y := Option.some.inj (r.abs.symm.trans q.abs)
theorem Vals.inj : ∀ {xs ys : List V} {us : List Value}, Vals xs us → Vals ys us → xs = ys
  | _, _, _, .nil, .nil => rfl
  | _, _, _, .cons r t, .cons r' t' => by rw [r.inj r', Vals.inj t t']
section
variable {X : Cx} {pins : List (Addr × Obj)} {σ : St} {H : Hp} {s : Shared} {a : Addr} {xs ys : List V}
theorem SqL.of {K : PySem.W.Frag} (h : H a = some (.lst xs)) : SqL K H a xs := .inl (.inl h)
theorem SqT.of {K : PySem.W.Frag} (h : H a = some (.tup xs)) : SqT K H a xs := .inl (.inl h)
theorem Inv.list (I : Inv X pins σ H s) (h : SqL X.K H a xs) : ∃ its : List Value, Vals xs its ∧ PlainL s.heap a its.toArray ∧ xs.length ≤ sizeLine := by
  rcases h with h | ⟨o, its, n, hk, hc, hd, hs, hz, r⟩
  · obtain ⟨z, its, n, r, e⟩ := h.ok I.hok
    exact ⟨its, r, ⟨_, n, e, rfl, rfl, rfl⟩, z⟩
  · refine ⟨its.toList, r, ⟨o, n, I.kIn a o hk, hc, hd, by simpa using hs⟩, ?_⟩
    have e := r.length
    simp only [Array.length_toList] at e
    omega
theorem Inv.tuple (I : Inv X pins σ H s) (h : SqT X.K H a xs) : ∃ its : List Value, Vals xs its ∧ IsTup s.heap a its.toArray ∧ xs.length ≤ sizeLine := by
  rcases h with h | ⟨o, its, n, hk, hc, hs, hz, r⟩
  · obtain ⟨z, its, r, p⟩ := h.ok I.hok
    exact ⟨its, r, p, z⟩
  · refine ⟨its.toList, r, ⟨o, I.kIn a o hk, hc, n, by simpa using hs⟩, ?_⟩
    have e := r.length
    simp only [Array.length_toList] at e
    omega
theorem Inv.list_inj (I : Inv X pins σ H s) (h : SqL X.K H a xs) (h' : SqL X.K H a ys) : xs = ys := by
  obtain ⟨its, r, ⟨o, n, e, _, _, d⟩, _⟩ := I.list h
  obtain ⟨its', r', ⟨o', n', e', _, _, d'⟩, _⟩ := I.list h'
  rw [e] at e'; cases e'
  rw [d] at d'
  injection d' with d1 _
  have : its = its' := by simpa using congrArg Array.toList d1
  subst this
  exact r.inj r'
end

/-! ### another wish about exceptions -/
abbrev Cx.wish (X : Cx) (E : Value → Shared → Prop) : Cx := { X with xe := E }
/-- no exception leaves -/
abbrev Cx.nox (X : Cx) : Cx := X.wish fun _ _ => False
theorem Cx.Ok.wish {X : Cx} (ok : X.Ok) (E : Value → Shared → Prop) : (X.wish E).Ok :=
  ⟨ok.mod, ok.kind, ok.glob, ok.blt, ok.above, ok.inj, ok.has, ok.cab, ok.hd, ok.frames, ok.stk, ok.exf, ok.bs, ok.bsz, ok.noex, ok.exfs, ok.funs, ok.frf⟩
theorem Cx.Ok.unwish {X : Cx} {E : Value → Shared → Prop} (ok : (X.wish E).Ok) : X.Ok :=
  ⟨ok.mod, ok.kind, ok.glob, ok.blt, ok.above, ok.inj, ok.has, ok.cab, ok.hd, ok.frames, ok.stk, ok.exf, ok.bs, ok.bsz, ok.noex, ok.exfs, ok.funs, ok.frf⟩
section
variable {X : Cx} {pins : List (Addr × Obj)} {σ : St} {H : Hp} {s : Shared} {E : Value → Shared → Prop}
theorem Inv.wish (I : Inv X pins σ H s) (E : Value → Shared → Prop) : Inv (X.wish E) pins σ H s := ⟨I.ok.wish E, I.os, I.bare, I.base, I.loc, I.cell, I.free, I.freeC, I.pin, I.hok, I.len⟩
theorem Inv.unwish (I : Inv (X.wish E) pins σ H s) : Inv X pins σ H s := ⟨I.ok.unwish, I.os, I.bare, I.base, I.loc, I.cell, I.free, I.freeC, I.pin, I.hok, I.len⟩
theorem SP.unwish {D : Ends} {f : Flow} {s' : Shared} (h : SP (X.wish E) pins D f s') : SP X pins D f s' := by
  cases f with
  | next => obtain ⟨σ', H', I, q⟩ := h; exact ⟨σ', H', I.unwish, q⟩
  | brk => obtain ⟨σ', H', I, q⟩ := h; exact ⟨σ', H', I.unwish, q⟩
  | cont => obtain ⟨σ', H', I, q⟩ := h; exact ⟨σ', H', I.unwish, q⟩
  | ret u => obtain ⟨v, σ', H', I, r, q⟩ := h; exact ⟨v, σ', H', I.unwish, r, q⟩
theorem PSs.nox {st : List Stmt} {t : TS} (h : PSs X.nox st t) : PSs X st t := fun pins s σ H D I hw =>
  wpAny_mono (h pins s σ H D (I.wish _) hw) (fun _ _ q => q.unwish) fun _ _ z => False.elim z
end

/-! ### blocks and small statements -/
section
variable {X : Cx} {st : Stmt} {rest : List Stmt} {t u : TS} {e : Expr} {te : TE} {pos : Pos}
def tNext : TS := fun D σ H => D.nx σ H
def tSeq (t u : TS) : TS := fun D σ H => t { D with nx := u D } σ H
theorem pss_nil : PSs X [] tNext := fun _ _ σ H _ I h => wpAny_execs_nil ⟨σ, H, I, h⟩
theorem pss_cons (h1 : PS X st t) (h2 : PSs X rest u) : PSs X (st :: rest) (tSeq t u) := by
  intro pins s σ H D I h
  refine wpAny_execs_cons (thn (h1 pins s σ H { D with nx := u D } I h) fun f s1 q => ?_)
  cases f with
  | next =>
    obtain ⟨σ', H', I', q⟩ := q
    exact h2 pins s1 σ' H' D I' q
  | ret v => exact q
  | brk => exact q
  | cont => exact q
theorem pss_one (h1 : PS X st t) : PSs X [st] t := by
  intro pins s σ H D I h
  refine wpAny_execs_cons (thn (h1 pins s σ H D I h) fun f s1 q => ?_)
  cases f with
  | next => exact wpAny_execs_nil q
  | ret v => exact q
  | brk => exact q
  | cont => exact q
def tBreak : TS := fun D σ H => D.bk σ H
def tCont : TS := fun D σ H => D.ct σ H
/-- in a def's body nothing is shown -/
theorem Inv.quiet {pins : List (Addr × Obj)} {σ : St} {H : Hp} {s : Shared} (I : Inv X pins σ H s) : interactive X.env = false := by simp [interactive, I.ok.kind]
/-- an expression whose value is dropped -/
def tDrop (te : TE) : TS := fun D σ H => te σ H fun _ H1 => D.nx σ H1
theorem ps_expr (he : PE X e te) (hs : swapsWith e none pos.line X.env = pure false := by rfl) : PS X (.Expr e pos) (tDrop te) := by
  intro pins s σ H D I h
  exact wpAny_Expr_any (thn (he pins s σ H _ I h) fun v s1 ⟨x, H1, I1, r1, q1⟩ => ⟨σ, H1, I1, q1⟩) I.quiet hs
def tRet (te : TE) : TS := fun D σ H => te σ H D.rt
theorem ps_ret (he : PE X e te) : PS X (.Return (some e) pos) (tRet te) := by
  intro pins s σ H D I h
  exact wpAny_Return_some (thn (he pins s σ H _ I h) fun v s1 ⟨x, H1, I1, r1, q1⟩ => ⟨x, σ, H1, I1, r1, q1⟩)
def tRetN : TS := fun D _ H => D.rt .non H
def tIfS (c : TT) (t u : TS) : TS := fun D σ H => c σ H fun b H1 => if b = true then t D σ H1 else u D σ H1
theorem ps_if {c : Expr} {a b : List Stmt} {tc : TT} (hc : PT X c tc) (ha : PSs X a t) (hb : PSs X b u) : PS X (.If c a b pos) (tIfS tc t u) := by
  intro pins s σ H D I h
  refine wpAny_If (thn (hc pins s σ H _ I h) fun d s1 ⟨H1, I1, q1⟩ => ?_)
  cases d with
  | true => exact ha pins s1 σ H1 D I1 q1
  | false => exact hb pins s1 σ H1 D I1 q1
/-- code that the proof never comes to -/
def tNever : TS := fun _ _ _ => False
theorem ps_never : PS X st tNever := fun _ _ _ _ _ _ h => h.elim
end

/-! ### targets -/
abbrev TG := V → St → Hp → (St → Hp → Prop) → Prop
abbrev TGs := List V → St → Hp → (St → Hp → Prop) → Prop
def PG (X : Cx) (target : Expr) (t : TG) : Prop :=
  ∀ (pins : List (Addr × Obj)) (s : Shared) (σ : St) (H : Hp) (v : V) (u : Value) (Q : St → Hp → Prop), Inv X pins σ H s → RelV v u → t v σ H Q →
    wpAny (model X.prog X.w) X.A (assign target X.env u) (fun _ s' => ∃ σ' H', Inv X pins σ' H' s' ∧ Q σ' H') X.xe s
/-- several targets, one after another -/
def PGs (X : Cx) (ts : List Expr) (t : TGs) : Prop :=
  ∀ (pins : List (Addr × Obj)) (s : Shared) (σ : St) (H : Hp) (vs : List V) (us : List Value) (Q : St → Hp → Prop), Inv X pins σ H s → Vals vs us → t vs σ H Q →
    wpAny (model X.prog X.w) X.A (assignInOrder ((assignEach ts X.env).map (·.2)) us) (fun _ s' => ∃ σ' H', Inv X pins σ' H' s' ∧ Q σ' H') X.xe s
/-- o[i] = v, by values -/
abbrev TSet := V → V → V → Hp → (Hp → Prop) → Prop
def PSet (X : Cx) (t : TSet) : Prop :=
  ∀ (pins : List (Addr × Obj)) (s : Shared) (σ : St) (H : Hp) (o i v : V) (ov iv u : Value) (Q : Hp → Prop), Inv X pins σ H s → RelV o ov → RelV i iv → RelV v u → t o i v H Q →
    wpAny (model X.prog X.w) X.A (setItem ov iv u) (fun _ s' => ∃ H', Inv X pins σ H' s' ∧ Q H') X.xe s
/-- a op= b, by values -/
abbrev TIp := V → V → Hp → VK → Prop
def PIp (X : Cx) (op : Operator) (t : TIp) : Prop :=
  ∀ (pins : List (Addr × Obj)) (s : Shared) (σ : St) (H : Hp) (x y : V) (v u : Value) (Q : VK), Inv X pins σ H s → RelV x v → RelV y u → t x y H Q →
    wpAny (model X.prog X.w) X.A (inplaceOp op v u) (EP X pins σ Q) X.xe s
section
variable {X : Cx} {pos : Pos}
def gName (i : Nat) : TG := fun v σ H Q => Q (σ.set i (some v)) H
theorem pg_name {i : Nat} {x : Str} (hN : X.N.Nodup) (hi : X.N[i]? = some x) (hx : Loc X.env.scope x) (hf : X.fn x = true ∨ X.env.scope.names.lookup x = some .local := by first | exact .inl rfl | exact .inr rfl | assumption) : PG X (.Name x pos) (gName i) := by
  intro pins s σ H v u Q I r h
  exact wpAny_assign_Name (store_ok I hN hi hx r (fun s' I' => ⟨_, H, I', h⟩) hf)
def gNil : TGs := fun vs σ H Q => vs = [] ∧ Q σ H
def gCons (t : TG) (u : TGs) : TGs := fun vs σ H Q => ∃ v r, vs = v :: r ∧ t v σ H fun σ' H' => u r σ' H' Q
theorem pgs_nil : PGs X [] gNil := by
  intro pins s σ H vs us Q I r h
  obtain ⟨e, h⟩ := h
  subst e
  cases r
  exact assignInOrder_nil ⟨σ, H, I, h⟩
theorem pgs_cons {e : Expr} {es : List Expr} {t : TG} {u : TGs} (h1 : PG X e t) (h2 : PGs X es u)
    (hs : (assignEach (e :: es) X.env).map (·.2) = assign e X.env :: (assignEach es X.env).map (·.2) := by rfl) : PGs X (e :: es) (gCons t u) := by
  intro pins s σ H vs us Q I r h
  obtain ⟨v, vr, e1, h⟩ := h
  subst e1
  cases r with
  | cons r rr =>
    rw [hs]
    refine assignInOrder_cons (thn (h1 pins s σ H _ _ _ I r h) fun _ s1 ⟨σ1, H1, I1, q1⟩ => ?_)
    exact h2 pins s1 σ1 H1 _ _ Q I1 rr q1
/-- (a, b, ..) = a tuple of that length -/
def gTup (K : PySem.W.Frag) (n : Nat) (t : TGs) : TG := fun v σ H Q => ∃ a xs, v = .ref a ∧ SqT K H a xs ∧ xs.length = n ∧ t xs σ H Q
theorem pg_tup {es : List Expr} {k : Nat} {t : TGs} {n : Nat} (hc : X.calm = true) (h : PGs X es t)
    (hn : (assignEach es X.env).length = n := by rfl) (hst : (assignEach es X.env).findIdx? (·.1) = none := by rfl) : PG X (.Tuple es k pos) (gTup X.K n t) := by
  intro pins s σ H v u Q I r hw
  obtain ⟨a, xs, e1, hq, hl, hw⟩ := hw
  subst e1
  cases r
  obtain ⟨its, rv, ht, hz⟩ := I.tuple hq
  refine assign_Tuple_tuple (I.ok.hd hc) ht (by simp [hn, ← hl, rv.length]) hst fun h' hx => ?_
  have I1 : Inv X pins σ H { s with heap := h' } := I.kept (t' := s.toks) fun b o e => hx b o (Nat.ne_of_lt (Heap.lt_size e)) e
  exact h pins _ σ H xs _ Q I1 (by simpa using rv) hw
/-- o[i] = .. -/
def gSub (to ti : TE) (t : TSet) : TG := fun v σ H Q => to σ H fun o H1 => ti σ H1 fun i H2 => t o i v H2 fun H3 => Q σ H3
/-- target = value -/
def tAsg (te : TE) (g : TG) : TS := fun D σ H => te σ H fun x H1 => g x σ H1 D.nx
theorem ps_asg {tg e : Expr} {te : TE} {g : TG} (he : PE X e te) (hg : PG X tg g) (hs : swapsWithSole [tg] e pos.line X.env = pure false := by rfl) (hw : swappedStores [tg] e X.env = pure none := by rfl)
    (h1 : (assignEach [tg] X.env).map (·.2) = [assign tg X.env] := by rfl) : PS X (.Assign [tg] e pos) (tAsg te g) := by
  intro pins s σ H D I h
  refine wpAny_Assign_stores (thn (he pins s σ H _ I h) fun v s1 ⟨x, H1, I1, r1, q1⟩ => ?_) hs hw
  rw [h1]
  exact thn (hg pins s1 σ H1 x v _ I1 r1 q1) fun _ s2 q => q
/-- name = value -/
theorem ps_set {i : Nat} {x : Str} {e : Expr} {te : TE} {pos' : Pos} (hN : X.N.Nodup) (hi : X.N[i]? = some x) (hx : Loc X.env.scope x) (he : PE X e te) (hs : swapsWith e (some (.Name x pos')) pos.line X.env = pure false := by rfl) (hf : X.fn x = true ∨ X.env.scope.names.lookup x = some .local := by first | exact .inl rfl | exact .inr rfl | assumption) :
    PS X (.Assign [.Name x pos'] e pos) (tAsg te (gName i)) := by
  intro pins s σ H D I h
  refine wpAny_Assign_Name (thn (he pins s σ H _ I h) fun v s1 ⟨y, H1, I1, r1, q1⟩ => ?_) hs
  exact store_ok I1 hN hi hx r1 (fun s2 I2 => ⟨_, H1, I2, q1⟩) hf
/-- a, b = x, y with plain local names: stored from the right; the pair itself is not tracked (the opening rows as in PyProof/Rows/TupAssign.lean:23) -/
def tPar (i j : Nat) (ta : TA) : TS := fun D σ H => ta σ H fun vs H1 => ∃ v w, vs = [v, w] ∧ D.nx ((σ.set i (some v)).set j (some w)) H1
/-- name op= e -/
def tAug (i : Nat) (te : TE) (ti : TIp) : TS := fun D σ H => ∃ x, σ[i]? = some (some x) ∧ te σ H fun y H1 => ti x y H1 fun z H2 => D.nx (σ.set i (some z)) H2
theorem ps_aug {i : Nat} {x : Str} {e : Expr} {te : TE} {op : Operator} {ti : TIp} {pos' : Pos} (hN : X.N.Nodup) (hi : X.N[i]? = some x) (hx : Loc X.env.scope x) (he : PE X e te) (ho : PIp X op ti) (hf : X.fn x = true ∨ X.env.scope.names.lookup x = some .local := by first | exact .inl rfl | exact .inr rfl | assumption) :
    PS X (.AugAssign (.Name x pos') op e pos) (tAug i te ti) := by
  intro pins s σ H D I h
  obtain ⟨v, e1, h⟩ := h
  obtain ⟨m, hn, hl⟩ := I.loc
  have vis : Vis X.env.scope x := by rcases hx with k | k; exact .inl k; exact .inr (.inl k)
  obtain ⟨u, r, l⟩ := hl i x v hi e1 vis
  refine wpAny_AugAssign_Name ?_
  have go : wpAny (model X.prog X.w) X.A (eval e X.env) (fun w s₂ => wpAny (model X.prog X.w) X.A (inplaceOp op u w) (fun r s₃ => wpAny (model X.prog X.w) X.A (storeName X.env x r) (fun _ => SP X pins D .next) X.xe s₃) X.xe s₂) X.xe s := by
    refine thn (he pins s σ H _ I h) fun w s1 ⟨y, H1, I1, r1, q1⟩ => ?_
    refine thn (ho pins s1 σ H1 v y u w _ I1 r r1 q1) fun z s2 ⟨zv, H2, I2, r2, q2⟩ => ?_
    exact store_ok I2 hN hi hx r2 (fun s3 I3 => ⟨_, H2, I3, q2⟩) hf
  rcases l with ⟨hk, hm⟩ | ⟨hk, c, hc, hcell⟩
  · exact wpAny_loadName_local I.ok.kind hk hn hm go
  · rcases hk with hk | hk
    · exact wpAny_loadName_cell I.ok.kind hk hc hcell go
    · rcases hx with k | k
      · have : X.env.scope.names.lookup x = some .free := hk
        rw [k] at this; cases this
      · have : X.env.scope.names.lookup x = some .free := hk
        rw [k] at this; cases this
/-- o[i] op= e -/
def tAugS (to ti te : TE) (tget : V → V → Hp → VK → Prop) (tip : TIp) (tset : TSet) : TS := fun D σ H => to σ H fun o H1 => ti σ H1 fun i H2 => tget o i H2 fun x H3 => te σ H3 fun y H4 => tip x y H4 fun z H5 => tset o i z H5 fun H6 => D.nx σ H6
/-- o[i], by values -/
def PGet (X : Cx) (t : V → V → Hp → VK → Prop) : Prop :=
  ∀ (pins : List (Addr × Obj)) (s : Shared) (σ : St) (H : Hp) (o i : V) (ov iv : Value) (Q : VK), Inv X pins σ H s → RelV o ov → RelV i iv → t o i H Q →
    wpAny (model X.prog X.w) X.A (getItem ov iv) (EP X pins σ Q) X.xe s
/-- ints -/
def ipI (f : Int → Int → Int) : TIp := fun x y H Q => ∃ i j, x = .int i ∧ y = .int j ∧ Q (.int (f i j)) H
theorem ip_add : PIp X .Add (ipI fun i j => i + j) := by
  intro pins s σ H x y v u Q I r1 r2 h
  obtain ⟨i, j, e1, e2, q⟩ := h
  subst e1; subst e2
  obtain ⟨t, rfl⟩ := r1
  obtain ⟨t', rfl⟩ := r2
  exact iadd_int ⟨.int _, H, I.tok _, ⟨_, rfl⟩, q⟩
end

/-! ### while -/
section
variable {X : Cx} {pos : Pos}
/-- the invariant W with its measure -/
def tWhile (c : TT) (tb : TS) : TS := fun D σ H => ∃ W : Nat → St → Hp → Prop, (∃ m, W m σ H) ∧ ∀ m σ H, W m σ H →
  c σ H fun b H1 => if b = true then ∃ N : St → Hp → Prop, (∀ σ' H', N σ' H' → ∃ m', m' < m ∧ W m' σ' H') ∧ tb { D with nx := N, ct := N, bk := D.nx } σ H1 else D.nx σ H1
end

/-! ### what a loop or a comprehension walks -/
/-- at turn i: it yields x (the heap may grow), or it stops -/
structure It where
  go : Nat → Hp → Prop
  yld : Nat → Hp → V → Hp → Prop
  stop : Nat → Hp → Prop
/-- the iterator's own objects may turn: they are not the frame's, not pinned, younger than the entry (or a comprehension's own) -/
def FpOk (X : Cx) (pins : List (Addr × Obj)) (H : Hp) (b : Addr) : Prop :=
  H b = none ∧ b ≠ X.env.locals ∧ b ∉ X.fs ∧ (b ∈ X.ex ∨ X.s₀.heap.objs.size ≤ b) ∧ (∀ x c, X.env.cells.lookup x = some c → c ≠ b) ∧ ∀ p ∈ X.pn ++ pins, p.1 ≠ b
theorem Inv.fpOk {X : Cx} {pins : List (Addr × Obj)} {σ : St} {H H' : Hp} {s : Shared} {b : Addr} (I : Inv X pins σ H s) (hb : s.heap.objs.size ≤ b) (hn : H' b = none) : FpOk X pins H' b := by
  refine ⟨hn, Nat.ne_of_gt (Nat.lt_of_lt_of_le I.lt hb), I.nofs hb, .inr (Nat.le_trans I.sz hb), fun x c e z => ?_, fun p hp z => ?_⟩
  · obtain ⟨v, q⟩ := I.cell x c e
    exact absurd (Nat.lt_of_lt_of_le q.lt (by rw [z]; exact hb)) (Nat.lt_irrefl _)
  · exact absurd (Nat.lt_of_lt_of_le (Heap.lt_size (I.pin p hp).1) (by rw [z]; exact hb)) (Nat.lt_irrefl _)
structure Turn (P : Program) (w : World) (K : PySem.W.Frag) (tg : Expr) (J : It) (fp : List Addr) (it : Addr) (tn : Nat → Heap → Prop) : Prop where
  mem : it ∈ fp
  obj : ∀ i h, tn i h → ∀ b ∈ fp, ∃ o, h.get? b = some o ∧ ∀ v, o.data ≠ .cell v
  keep : ∀ i h h', tn i h → (∀ b ∈ fp, ∀ o, h.get? b = some o → h'.get? b = some o) → tn i h'
  item : ∀ (X : Cx), X.prog = P → X.w = w → X.K = K → X.calm = true → ∀ (i : Nat) (pins : List (Addr × Obj)) (s : Shared) (σ : St) (H : Hp) (E : Value → Shared → Prop), Inv X pins σ H s → (∀ b ∈ fp, FpOk X pins H b) → tn i s.heap → J.go i H →
    wpAny (model P w) X.A (pyNext (.ref it)) (fun r s1 => ∃ u, r = some u ∧
      wpAny (model P w) X.A (letOwnedTupleGo tg (.ref it) u) (fun _ s2 => ∃ x H', Inv X pins σ H' s2 ∧ RelV x u ∧ J.yld i H x H' ∧ tn (i + 1) s2.heap ∧ ∀ b ∈ fp, H' b = none) E s1) E s
  done : ∀ (X : Cx), X.prog = P → X.w = w → X.K = K → X.calm = true → ∀ (i : Nat) (pins : List (Addr × Obj)) (s : Shared) (σ : St) (H : Hp) (E : Value → Shared → Prop), Inv X pins σ H s → (∀ b ∈ fp, FpOk X pins H b) → tn i s.heap → J.stop i H →
    wpAny (model P w) X.A (pyNext (.ref it)) (fun r s1 => r = none ∧ Inv X pins σ H s1) E s
  self : ∀ (A : Around) (i : Nat) (s : Shared) (Q : Value → Shared → Prop) (E : Value → Shared → Prop), tn i s.heap → Q (.ref it) s → wpAny (model P w) A (pyIter (.ref it)) Q E s
abbrev TI := St → Hp → (It → Hp → Prop) → Prop
/-- an iterator has come -/
def PIE (X : Cx) (pins : List (Addr × Obj)) (σ : St) (tg : Expr) (R : It → Hp → Prop) (itv : Value) (s2 : Shared) : Prop :=
  ∃ (it : Addr) (fp : List Addr) (tn : Nat → Heap → Prop) (J : It) (H' : Hp), itv = .ref it ∧ Inv X pins σ H' s2 ∧ Turn X.prog X.w X.K tg J fp it tn ∧ tn 0 s2.heap ∧ (∀ b ∈ fp, FpOk X pins H' b) ∧ R J H'
def PI (X : Cx) (tg iter : Expr) (wi : TI) : Prop :=
  ∀ (pins : List (Addr × Obj)) (s : Shared) (σ : St) (H : Hp) (R : It → Hp → Prop), Inv X pins σ H s → wi σ H R →
    wpAny (model X.prog X.w) X.A (eval iter X.env) (fun v s1 => wpAny (model X.prog X.w) X.A (pyIter v) (PIE X pins σ tg R) X.xe s1) X.xe s

/-- the step ahead of the store is nothing for an iterator that keeps no tuple -/
theorem go_of {M : Model} {A : Around} {E : Value → Shared → Prop} {s : Shared} {tg : Expr} {it : Addr} {u : Value} {o : Obj} {n : String} {vs : Array Value} {Q : Unit → Shared → Prop} (ho : s.heap.get? it = some o) (hc : o.cls = .type n) (hd : o.data = .fields vs)
    (hn : ["enumerate", "zip", "dict_itemiterator", "dict_reverseitemiterator", "odict_iterator", "itertools.zip_longest", "itertools.pairwise"].contains n = false) (hQ : Q () s) : wpAny M A (letOwnedTupleGo tg (.ref it) u) Q E s := by
  unfold letOwnedTupleGo
  cases tg <;> first
    | exact wpAny_pure hQ
    | (cases u <;> first
        | exact wpAny_pure hQ
        | (refine wpAny_bind (wpAny_load ho ?_)
           rw [hc, hd]
           show wpAny M A (if (["enumerate", "zip", "dict_itemiterator", "dict_reverseitemiterator", "odict_iterator", "itertools.zip_longest", "itertools.pairwise"].contains n && vs[0]? == some (rawInt _)) = true then _ else _) Q E s
           rw [if_neg (by intro h; rw [hn, Bool.false_and] at h; cases h)]
           exact wpAny_pure hQ))

/-- the list at a, as it stands at each turn (a loop may append to it) -/
def Itl (K : PySem.W.Frag) (a : Addr) : It :=
  ⟨fun i H => ∃ xs x, SqL K H a xs ∧ xs[i]? = some x, fun i H x H' => H' = H ∧ ∀ xs, SqL K H a xs → xs[i]? = some x, fun i H => ∃ xs, SqL K H a xs ∧ xs.length ≤ i⟩
def Itt (K : PySem.W.Frag) (a : Addr) : It :=
  ⟨fun i H => ∃ xs x, SqT K H a xs ∧ xs[i]? = some x, fun i H x H' => H' = H ∧ ∀ xs, SqT K H a xs → xs[i]? = some x, fun i H => ∃ xs, SqT K H a xs ∧ xs.length ≤ i⟩
/-- lo, lo + 1, .. (n of them) -/
def Itr (lo : Int) (n : Nat) : It := ⟨fun i _ => i < n, fun i H x H' => H' = H ∧ x = .int (lo + i), fun i _ => n ≤ i⟩
theorem turn_list {P : Program} {w : World} {K : PySem.W.Frag} {tg : Expr} (a it : Addr) : Turn P w K tg (Itl K a) [it] it (fun i h => h.IsListIter it a i) where
  mem := by simp
  obj := fun i h st b hb => by
    have e : b = it := by simpa using hb
    subst e
    obtain ⟨o, e, c, d⟩ := st
    exact ⟨o, e, fun v z => by rw [d] at z; cases z⟩
  keep := fun i h h' st k => st.at fun o e => k it (by simp) o e
  item := by
    intro X hP hw hK hc i pins s σ H E I hf st hg
    subst hP hw hK
    obtain ⟨xs, x, hq, hx⟩ := hg
    obtain ⟨its, rv, p, hz⟩ := I.list hq
    obtain ⟨u, hu, ru⟩ := rv.get hx
    obtain ⟨f0, f1, f2, f3, f4, f5⟩ := hf it (by simp)
    refine wpAny_pyNext_list_item st p.isList (x := u) (by simpa using hu) fun h' st' sb => ?_
    have I1 : Inv X pins σ H { s with heap := h' } := I.turned (t' := s.toks) (fun b o hb e => (sb.2 b hb).trans e) f0 f1 f3 f4 f5
    obtain ⟨o, e, c, d⟩ := id st'
    exact ⟨u, rfl, go_of (s := { s with heap := h' }) e c d (by decide) ⟨x, H, I1, ru, ⟨rfl, fun ys hy => by rw [I.list_inj hy hq]; exact hx⟩, st', fun b hb => (hf b hb).1⟩⟩
  done := by
    intro X hP hw hK hc i pins s σ H E I hf st hg
    subst hP hw hK
    obtain ⟨xs, hq, hx⟩ := hg
    obtain ⟨its, rv, p, hz⟩ := I.list hq
    obtain ⟨f0, f1, f2, f3, f4, f5⟩ := hf it (by simp)
    have hl := rv.length
    exact wpAny_pyNext_list_end (I.ok.hd hc) st p.isList (by simp; omega) fun h' eb => ⟨rfl, I.turned (t' := s.toks) (fun b o hb e => eb b o hb e) f0 f1 f3 f4 f5⟩
  self := fun _ _ _ _ _ st h => wpAny_pyIter_listiter st h
theorem turn_range {P : Program} {w : World} {K : PySem.W.Frag} {tg : Expr} (it : Addr) (lo : Int) (n : Nat) : Turn P w K tg (Itr lo n) [it] it (fun i h => IsRangeIter h it (lo + (i : Nat) * 1) ((n : Int) - (i : Nat)) 1) where
  mem := by simp
  obj := fun i h st b hb => by
    have e : b = it := by simpa using hb
    subst e
    exact ⟨_, st, fun v z => by
      have z' : Data.fields _ = Data.cell v := z
      cases z'⟩
  keep := fun i h h' st k => k it (by simp) _ st
  item := by
    intro X hP hw hK hc i pins s σ H E I hf st hg
    subst hP hw hK
    obtain ⟨f0, f1, f2, f3, f4, f5⟩ := hf it (by simp)
    have W := Walks.range (prog := X.prog) (w := X.w) (I.ok.hd hc) it lo 1 n
    refine W.item i s _ _ hg st fun v h' tk hv st' kk => ?_
    obtain ⟨t, rfl⟩ := hv
    have I1 : Inv X pins σ H { s with heap := h', toks := tk } := I.turned (fun b o hb e => kk b o (by simpa using hb) e) f0 f1 f3 f4 f5
    refine ⟨_, rfl, go_of (s := { s with heap := h', toks := tk }) (n := "range_iterator") st' rfl rfl (by decide) ⟨.int (lo + i), H, I1, ⟨t, ?_⟩, ⟨rfl, rfl⟩, st', fun b hb => (hf b hb).1⟩⟩
    rw [Int.mul_one]
  done := by
    intro X hP hw hK hc i pins s σ H E I hf st hg
    subst hP hw hK
    obtain ⟨f0, f1, f2, f3, f4, f5⟩ := hf it (by simp)
    exact wpAny_pyNext_range_end (I.ok.hd hc) st (by have : n ≤ i := hg; omega) fun h' eb => ⟨rfl, I.turned (t' := s.toks) (fun b o hb e => eb b o hb e) f0 f1 f3 f4 f5⟩
  self := fun _ _ _ _ _ st h => wpAny_pyIter_rangeiter st h
end L2

namespace L2
open PySem PySem.Spec PyProof.Rows
section
variable {X : Cx} {tg : Expr}
def iList (K : PySem.W.Frag) (tl : TE) : TI := fun σ H R => tl σ H fun x H1 => ∃ a, x = .ref a ∧ (∃ xs, SqL K H1 a xs) ∧ R (Itl K a) H1
def iTup (K : PySem.W.Frag) (tl : TE) : TI := fun σ H R => tl σ H fun x H1 => ∃ a, x = .ref a ∧ (∃ xs, SqT K H1 a xs) ∧ R (Itt K a) H1
theorem pi_list {l : Expr} {tl : TE} (hl : PE X l tl) : PI X tg l (iList X.K tl) := by
  intro pins s σ H R I h
  refine thn (hl pins s σ H _ I h) fun v s1 ⟨x, H1, I1, r1, q1⟩ => ?_
  obtain ⟨a, e, ⟨xs, hq⟩, q⟩ := q1
  subst e
  cases r1
  obtain ⟨its, rv, p, hz⟩ := I1.list hq
  refine wpAny_pyIter_list p.isList ?_
  refine ⟨s1.heap.objs.size, [s1.heap.objs.size], _, _, H1, rfl, I1.kept (t' := s1.toks) fun b o e => Heap.get?_push_of_some _ e, turn_list a _, ⟨_, Heap.get?_push_size _ rfl, rfl, rfl⟩, fun b hb => ?_, q⟩
  have e : b = s1.heap.objs.size := by simpa using hb
  subst e
  exact I1.fpOk (Nat.le_refl _) (I1.hok.fresh (Nat.le_refl _))
/-- a range object just made, walked -/
theorem range_it {pins : List (Addr × Obj)} {σ : St} {H : Hp} {s : Shared} {R : It → Hp → Prop} {E : Value → Shared → Prop} {lo hi : Int} {t u v : Tok} {tk : Nat} (I : Inv X pins σ H s) (h1 : -(2 ^ 62) ≤ lo) (h2 : lo < 2 ^ 62) (h3 : -(2 ^ 62) ≤ hi) (h4 : hi < 2 ^ 62)
    (q : R (Itr lo (hi - lo).toNat) H) : wpAny (model X.prog X.w) X.A (pyIter (.ref s.heap.objs.size)) (PIE X pins σ tg R) E { s with heap := s.heap.push { cls := .type "range", data := .fields #[.int lo t, .int hi u, .int 1 v] }, toks := tk } := by
  refine wpAny_pyIter_range (IsRange.new ..) (small_one h1 h2 h3 h4) ?_
  have I1 : Inv X pins σ H { s with heap := s.heap.push { cls := .type "range", data := .fields #[.int lo t, .int hi u, .int 1 v] }, toks := tk } := I.kept fun b o e => Heap.get?_push_of_some _ e
  refine ⟨(s.heap.push { cls := .type "range", data := .fields #[.int lo t, .int hi u, .int 1 v] }).objs.size, [(s.heap.push { cls := .type "range", data := .fields #[.int lo t, .int hi u, .int 1 v] }).objs.size], _, _, H, rfl,
    I1.kept (t' := tk) fun b o e => Heap.get?_push_of_some _ e, turn_range _ lo (hi - lo).toNat, ?_, fun b hb => ?_, q⟩
  · have e1 : lo + ((0 : Nat) : Int) * 1 = lo := by simp
    have e2 : (((hi - lo).toNat : Nat) : Int) - ((0 : Nat) : Int) = Builtin.Range.rangeSize lo hi 1 := by rw [rangeSize_one]; split <;> omega
    show IsRangeIter _ _ (lo + ((0 : Nat) : Int) * 1) ((((hi - lo).toNat : Nat) : Int) - ((0 : Nat) : Int)) 1
    rw [e1, e2]
    exact Heap.get?_push_size _ rfl
  · have e : b = (s.heap.push { cls := .type "range", data := .fields #[.int lo t, .int hi u, .int 1 v] }).objs.size := by simpa using hb
    subst e
    exact I1.fpOk (Nat.le_refl _) (I1.hok.fresh (Nat.le_refl _))
def iRng1 (ta : TA) : TI := fun σ H R => ta σ H fun vs H1 => ∃ j : Int, vs = [.int j] ∧ -(2 ^ 62) ≤ j ∧ j < 2 ^ 62 ∧ R (Itr 0 j.toNat) H1
def iRng2 (ta : TA) : TI := fun σ H R => ta σ H fun vs H1 => ∃ i j : Int, vs = [.int i, .int j] ∧ (-(2 ^ 62) ≤ i ∧ i < 2 ^ 62 ∧ -(2 ^ 62) ≤ j ∧ j < 2 ^ 62) ∧ R (Itr i (j - i).toNat) H1
theorem pi_range1 {a : Expr} {ta : TA} {p pos : Pos} (hg : Gl X "range") (hm : X.mg "range" = none) (ha : PA X [a] ta) (hs : starEach [a] X.env = [(false, eval a X.env)] := by rfl) : PI X tg (.Call (.Name "range" p) [a] [] pos) (iRng1 ta) := by
  intro pins s σ H R I h
  refine Call_ (ld_blt I hg hm boot_range (PyProof.Rows.callWith_type1 (thn (ha pos pins s σ H _ I h) fun us s1 ⟨vs, H1, I1, r1, q1⟩ => ?_) hs rfl))
  obtain ⟨j, e, q1, q2, q⟩ := q1
  subst e
  cases r1 with
  | cons r rr =>
    cases rr
    obtain ⟨t, rfl⟩ := r
    exact call_range_1 (range_it I1 (by omega) (by omega) q1 q2 (by simpa using q))
/-! ### for -/
/-- W: the invariant by the turn and a measure; N: what the body is to reach -/
def tFor (wi : TI) (g : TG) (tb : TS) : TS := fun D σ H => wi σ H fun J H1 => ∃ W : Nat → Nat → St → Hp → Prop, (∃ m, W 0 m σ H1) ∧ ∀ i m σ H, W i m σ H →
  (J.stop i H ∧ D.nx σ H) ∨ (J.go i H ∧ ∃ N : St → Hp → Prop, (∀ σ' H', N σ' H' → ∃ m', m' < m ∧ W (i + 1) m' σ' H') ∧ ∀ x H', J.yld i H x H' → g x σ H' fun σ2 H2 => tb { D with nx := N, ct := N, bk := D.nx } σ2 H2)
/-- the records at fp as they stand -/
def pinsAt (fp : List Addr) (h : Heap) : List (Addr × Obj) := fp.filterMap fun b => (h.get? b).map fun o => (b, o)
theorem mem_pinsAt {fp : List Addr} {h : Heap} {b : Addr} {o : Obj} (hb : b ∈ fp) (e : h.get? b = some o) : (b, o) ∈ pinsAt fp h := List.mem_filterMap.mpr ⟨b, hb, by rw [e]; rfl⟩
theorem of_pinsAt {fp : List Addr} {h : Heap} {p : Addr × Obj} (hp : p ∈ pinsAt fp h) : p.1 ∈ fp ∧ h.get? p.1 = some p.2 := by
  obtain ⟨b, hb, e⟩ := List.mem_filterMap.mp hp
  cases q : h.get? b with
  | none => rw [q] at e; cases e
  | some o =>
    rw [q] at e
    have e' : (b, o) = p := Option.some.inj e
    subst e'
    exact ⟨hb, q⟩
theorem Inv.pinned {pins : List (Addr × Obj)} {σ : St} {H : Hp} {s : Shared} {fp : List Addr} (I : Inv X pins σ H s) (hf : ∀ b ∈ fp, FpOk X pins H b) (ho : ∀ b ∈ fp, ∃ o, s.heap.get? b = some o ∧ ∀ v, o.data ≠ .cell v) : Inv X (pins ++ pinsAt fp s.heap) σ H s :=
  I.pins_of fun p hp => (List.mem_append.mp hp).elim (fun z => I.pin p (List.mem_append_right _ z)) fun z => by
    obtain ⟨hb, e⟩ := of_pinsAt z
    obtain ⟨f0, f1, f2, _⟩ := hf p.1 hb
    obtain ⟨o, e', d⟩ := ho p.1 hb
    rw [e] at e'; cases e'
    exact ⟨e, f0, f1, f2, d⟩
theorem Inv.unpinned {pins pl : List (Addr × Obj)} {σ : St} {H : Hp} {s : Shared} (I : Inv X (pins ++ pl) σ H s) : Inv X pins σ H s := I.pins_of fun p hp => I.pin p (List.mem_append_right _ (List.mem_append_left _ hp))
theorem ps_for {iter : Expr} {body : List Stmt} {wi : TI} {g : TG} {tb : TS} {pos : Pos} (hp : PassesOwn (model X.prog X.w) X.A X.env X.xe) (hc : X.calm = true) (hi : PI X tg iter wi) (hg : PG X tg g) (hb : PSs X body tb)
    (hs : ∀ x, foldedSetIterable iter X.env x = pure x := by intro _; rfl) : PS X (.For tg iter body [] pos) (tFor wi g tb) := by
  intro pins s σ H D I h
  refine wpAny_For (thn (hi pins s σ H _ I h) fun v s1 h1 => thn h1 fun itv s2 h2 => ?_) hs
  obtain ⟨it, fp, tn, J, H2, e, I2, T, st2, f2, W, ⟨m0, w0⟩, turn⟩ := h2
  subst e
  -- what stays true of the iterator's objects through the loop
  have stat : ∀ {H' : Hp}, (∀ b ∈ fp, H' b = none) → ∀ b ∈ fp, FpOk X pins H' b := fun hn b hb => ⟨hn b hb, (f2 b hb).2⟩
  refine codeAny_forLoop_any (fun n s' => ∃ i σ' H', Inv X pins σ' H' s' ∧ tn i s'.heap ∧ (∀ b ∈ fp, H' b = none) ∧ W i n σ' H') ?_ m0 ⟨0, σ, H2, I2, st2, fun b hb => (f2 b hb).1, w0⟩
  rintro n s3 ⟨i, σ3, H3, I3, st3, fr3, w3⟩
  rcases turn i n σ3 H3 w3 with ⟨stop, qn⟩ | ⟨go, N, hN, step⟩
  · refine wpAny_passesOwn hp (thn (T.done X rfl rfl rfl hc i pins s3 σ3 H3 X.xe I3 (stat fr3) st3 stop) fun r s4 ⟨hr, I4⟩ => ?_)
    subst hr
    exact wpAny_execs_nil ⟨σ3, H3, I4, qn⟩
  · refine wpAny_passesOwn hp (thn (T.item X rfl rfl rfl hc i pins s3 σ3 H3 X.xe I3 (stat fr3) st3 go) fun r s4 ⟨u, hr, h4⟩ => ?_)
    subst hr
    refine wpAny_passesOwn hp (thn h4 fun _ s5 ⟨x, H5, I5, r5, y5, st5, fr5⟩ => ?_)
    have I5' := I5.pinned (stat fr5) (T.obj _ _ st5)
    refine wpAny_passesOwn hp (thn (hg _ s5 σ3 H5 x u _ I5' r5 (step x H5 y5)) fun _ s6 ⟨σ6, H6, I6, q6⟩ => ?_)
    refine wpAny_passesOwn hp (thn (hb _ s6 σ6 H6 _ I6 q6) fun f s7 q7 => ?_)
    have again : ∀ {σ7 : St} {H7 : Hp}, Inv X (pins ++ pinsAt fp s5.heap) σ7 H7 s7 → N σ7 H7 → ∃ m, m < n ∧ ∃ i σ' H', Inv X pins σ' H' s7 ∧ tn i s7.heap ∧ (∀ b ∈ fp, H' b = none) ∧ W i m σ' H' := fun {σ7 H7} I7 n7 => by
      obtain ⟨m', hm, w7⟩ := hN σ7 H7 n7
      refine ⟨m', hm, i + 1, σ7, H7, I7.unpinned, T.keep _ _ _ st5 fun b hb o e => (I7.pin (b, o) (List.mem_append_right _ (List.mem_append_right _ (mem_pinsAt hb e)))).1, fun b hb => ?_, w7⟩
      obtain ⟨o, e, d⟩ := T.obj _ _ st5 b hb
      exact (I7.pin (b, o) (List.mem_append_right _ (List.mem_append_right _ (mem_pinsAt hb e)))).2.1
    cases f with
    | next => obtain ⟨σ7, H7, I7, n7⟩ := q7; exact again I7 n7
    | cont => obtain ⟨σ7, H7, I7, n7⟩ := q7; exact again I7 n7
    | brk => obtain ⟨σ7, H7, I7, q7⟩ := q7; exact ⟨σ7, H7, I7.unpinned, q7⟩
    | ret v => obtain ⟨x7, σ7, H7, I7, r7, q7⟩ := q7; exact ⟨x7, σ7, H7, I7.unpinned, r7, q7⟩
end

/-! ### the forms one uses -/
/-- over a list that the body leaves as it is -/
theorem for_list {K : PySem.W.Frag} {a : Addr} {xs : List V} {g : TG} {tb : TS} {D : Ends} {σ : St} {H : Hp} (Pv : Nat → St → Hp → Prop) (h0 : Pv 0 σ H) (hl : ∀ i σ H, i ≤ xs.length → Pv i σ H → SqL K H a xs)
    (hs : ∀ i x σ H, xs[i]? = some x → Pv i σ H → g x σ H fun σ2 H2 => tb { D with nx := Pv (i + 1), ct := Pv (i + 1), bk := D.nx } σ2 H2) (hd : ∀ σ H, Pv xs.length σ H → D.nx σ H) :
    ∃ W : Nat → Nat → St → Hp → Prop, (∃ m, W 0 m σ H) ∧ ∀ i m σ H, W i m σ H →
      ((Itl K a).stop i H ∧ D.nx σ H) ∨ ((Itl K a).go i H ∧ ∃ N : St → Hp → Prop, (∀ σ' H', N σ' H' → ∃ m', m' < m ∧ W (i + 1) m' σ' H') ∧ ∀ x H', (Itl K a).yld i H x H' → g x σ H' fun σ2 H2 => tb { D with nx := N, ct := N, bk := D.nx } σ2 H2) := by
  refine ⟨fun i m σ H => m = xs.length - i ∧ i ≤ xs.length ∧ Pv i σ H, ⟨xs.length, by simp, Nat.zero_le _, h0⟩, ?_⟩
  rintro i m σ H ⟨rfl, hi, p⟩
  have q := hl i σ H hi p
  by_cases hlt : i < xs.length
  · refine .inr ⟨⟨xs, xs[i], q, by simp [hlt]⟩, Pv (i + 1), fun σ' H' p' => ⟨xs.length - (i + 1), by omega, rfl, hlt, p'⟩, fun x H' y => ?_⟩
    obtain ⟨e, y⟩ := y
    subst e
    exact hs i x σ _ (y xs q) p
  · have e : i = xs.length := by omega
    subst e
    exact .inl ⟨⟨xs, q, Nat.le_refl _⟩, hd σ H p⟩
theorem for_range {lo : Int} {n : Nat} {g : TG} {tb : TS} {D : Ends} {σ : St} {H : Hp} (Pv : Nat → St → Hp → Prop) (h0 : Pv 0 σ H)
    (hs : ∀ i σ H, i < n → Pv i σ H → g (.int (lo + i)) σ H fun σ2 H2 => tb { D with nx := Pv (i + 1), ct := Pv (i + 1), bk := D.nx } σ2 H2) (hd : ∀ σ H, Pv n σ H → D.nx σ H) :
    ∃ W : Nat → Nat → St → Hp → Prop, (∃ m, W 0 m σ H) ∧ ∀ i m σ H, W i m σ H →
      ((Itr lo n).stop i H ∧ D.nx σ H) ∨ ((Itr lo n).go i H ∧ ∃ N : St → Hp → Prop, (∀ σ' H', N σ' H' → ∃ m', m' < m ∧ W (i + 1) m' σ' H') ∧ ∀ x H', (Itr lo n).yld i H x H' → g x σ H' fun σ2 H2 => tb { D with nx := N, ct := N, bk := D.nx } σ2 H2) := by
  refine ⟨fun i m σ H => m = n - i ∧ i ≤ n ∧ Pv i σ H, ⟨n, by simp, Nat.zero_le _, h0⟩, ?_⟩
  rintro i m σ H ⟨rfl, hi, p⟩
  by_cases hlt : i < n
  · refine .inr ⟨hlt, Pv (i + 1), fun σ' H' p' => ⟨n - (i + 1), by omega, rfl, hlt, p'⟩, fun x H' y => ?_⟩
    obtain ⟨e, y⟩ := y
    subst e y
    exact hs i σ _ hlt p
  · have e : i = n := by omega
    subst e
    exact .inl ⟨Nat.le_refl _, hd σ H p⟩
end L2

namespace L2
open PySem PySem.Spec PyProof.Rows

abbrev R2 := V → V → Hp → VK → Prop
/-- a two-place operation on values: f is binaryOp op, inplaceOp op or compareOp op -/
def OpR (X : Cx) (f : Value → Value → Sem Value) (r : R2) : Prop :=
  ∀ (pins : List (Addr × Obj)) (s : Shared) (σ : St) (H : Hp) (x y : V) (v u : Value) (Q : VK), Inv X pins σ H s → RelV x v → RelV y u → r x y H Q →
    wpAny (model X.prog X.w) X.A (f v u) (EP X pins σ Q) X.xe s
/-- a one-place operation -/
def UnR (X : Cx) (f : Value → Sem Value) (r : V → Hp → VK → Prop) : Prop :=
  ∀ (pins : List (Addr × Obj)) (s : Shared) (σ : St) (H : Hp) (x : V) (v : Value) (Q : VK), Inv X pins σ H s → RelV x v → r x H Q →
    wpAny (model X.prog X.w) X.A (f v) (EP X pins σ Q) X.xe s
/-- a call of a value that is known (a builtin, a type) with values -/
def CallR (X : Cx) (f : Value) (r : List V → Hp → VK → Prop) : Prop :=
  ∀ (pins : List (Addr × Obj)) (s : Shared) (σ : St) (H : Hp) (xs : List V) (us : List Value) (Q : VK), Inv X pins σ H s → Vals xs us → r xs H Q →
    wpAny (model X.prog X.w) X.A (call f us) (EP X pins σ Q) X.xe s
/-- a value's truth -/
def TruR (X : Cx) (r : V → Hp → (Bool → Hp → Prop) → Prop) : Prop :=
  ∀ (pins : List (Addr × Obj)) (s : Shared) (σ : St) (H : Hp) (x : V) (v : Value) (Q : Bool → Hp → Prop), Inv X pins σ H s → RelV x v → r x H Q →
    wpAny (model X.prog X.w) X.A (truthy v) (TP X pins σ Q) X.xe s

def tOp (r : R2) (ta tb : TE) : TE := fun σ H Q => ta σ H fun x H1 => tb σ H1 fun y H2 => r x y H2 Q
def tUn (r : V → Hp → VK → Prop) (ta : TE) : TE := fun σ H Q => ta σ H fun x H1 => r x H1 Q
/-- ints in, under C, and a value out -/
def rI (C : Int → Int → Prop) (g : Int → Int → V) : R2 := fun x y H Q => ∃ i j, x = .int i ∧ y = .int j ∧ C i j ∧ Q (g i j) H
def rI0 (g : Int → Int → V) : R2 := fun x y H Q => ∃ i j, x = .int i ∧ y = .int j ∧ Q (g i j) H
def rU (g : Int → V) : V → Hp → VK → Prop := fun x H Q => ∃ i, x = .int i ∧ Q (g i) H

section
variable {X : Cx} {a b c : Expr} {ta tb tc : TE} {pos : Pos}

theorem binT (ha : PE X a ta) (hb : PE X b tb) {pins : List (Addr × Obj)} {s : Shared} {σ : St} {H : Hp} {R : V → V → Hp → Prop} (I : Inv X pins σ H s)
    (h : ta σ H fun x H1 => tb σ H1 fun y H2 => R x y H2) {Q : Value → Shared → Prop} {f : Value → Value → Sem Value}
    (hf : ∀ v u s2 x y H2, Inv X pins σ H2 s2 → RelV x v → RelV y u → R x y H2 → wpAny (model X.prog X.w) X.A (f v u) Q X.xe s2) :
    wpAny (model X.prog X.w) X.A (eval a X.env) (fun v s₁ => wpAny (model X.prog X.w) X.A (eval b X.env) (fun u s₂ => wpAny (model X.prog X.w) X.A (f v u) Q X.xe s₂) X.xe s₁) X.xe s := by
  refine thn (ha pins s σ H _ I h) fun v s1 ⟨x, H1, I1, r1, q1⟩ => ?_
  refine thn (hb pins s1 σ H1 _ I1 q1) fun u s2 ⟨y, H2, I2, r2, q2⟩ => ?_
  exact hf v u s2 x y H2 I2 r1 r2 q2

theorem pe_op {op : Operator} {r : R2} (ho : OpR X (binaryOp op) r) (ha : PE X a ta) (hb : PE X b tb) : PE X (.BinOp a op b pos) (tOp r ta tb) := by
  intro pins s σ H Q I h
  exact wpAny_BinOp (binT ha hb I h fun v u s2 x y H2 I2 rx ry q => ho pins s2 σ H2 x y v u Q I2 rx ry q)
theorem pe_un {op : UnaryOp} {r : V → Hp → VK → Prop} (ho : UnR X (unaryOp op) r) (ha : PE X a ta) : PE X (.UnaryOp op a pos) (tUn r ta) := by
  intro pins s σ H Q I h
  exact UnaryOp_ (thn (ha pins s σ H _ I h) fun v s1 ⟨x, H1, I1, r1, q1⟩ => ho pins s1 σ H1 x v Q I1 r1 q1)
/-! ### ints -/
theorem opI {f : Value → Value → Sem Value} {C : Int → Int → Prop} {g : Int → Int → Int}
    (rule : ∀ (i j : Int) (t u : Tok) (s : Shared) (Q : Value → Shared → Prop) (E : Value → Shared → Prop), C i j → Q (.int (g i j) s.toks) { s with toks := s.toks + 1 } → wpAny (model X.prog X.w) X.A (f (.int i t) (.int j u)) Q E s) :
    OpR X f (rI C fun i j => .int (g i j)) := by
  intro pins s σ H x y v u Q I rx ry h
  obtain ⟨i, j, rfl, rfl, hc, q⟩ := h
  obtain ⟨t, rfl⟩ := rx
  obtain ⟨t', rfl⟩ := ry
  exact rule i j t t' s _ _ hc ⟨.int (g i j), H, I.tok _, ⟨_, rfl⟩, q⟩
theorem opI0 {f : Value → Value → Sem Value} {g : Int → Int → Int}
    (rule : ∀ (i j : Int) (t u : Tok) (s : Shared) (Q : Value → Shared → Prop) (E : Value → Shared → Prop), Q (.int (g i j) s.toks) { s with toks := s.toks + 1 } → wpAny (model X.prog X.w) X.A (f (.int i t) (.int j u)) Q E s) :
    OpR X f (rI0 fun i j => .int (g i j)) := by
  intro pins s σ H x y v u Q I rx ry h
  obtain ⟨i, j, rfl, rfl, q⟩ := h
  obtain ⟨t, rfl⟩ := rx
  obtain ⟨t', rfl⟩ := ry
  exact rule i j t t' s _ _ ⟨.int (g i j), H, I.tok _, ⟨_, rfl⟩, q⟩
theorem opB0 {f : Value → Value → Sem Value} {g : Int → Int → Bool}
    (rule : ∀ (i j : Int) (t u : Tok) (s : Shared) (Q : Value → Shared → Prop) (E : Value → Shared → Prop), Q (.bool (g i j)) s → wpAny (model X.prog X.w) X.A (f (.int i t) (.int j u)) Q E s) :
    OpR X f (rI0 fun i j => .bl (g i j)) := by
  intro pins s σ H x y v u Q I rx ry h
  obtain ⟨i, j, rfl, rfl, q⟩ := h
  obtain ⟨t, rfl⟩ := rx
  obtain ⟨t', rfl⟩ := ry
  exact rule i j t t' s _ _ ⟨.bl (g i j), H, I, rfl, q⟩

def CDiv (i j : Int) : Prop := 0 < j ∧ j < 1073741824
def CDivN (i j : Int) : Prop := j ≠ 0 ∧ j.natAbs < 1073741824
def CPow (i j : Int) : Prop := 0 ≤ j ∧ j ≤ 1000000 ∧ i.natAbs < 2 ^ 64
def CMul (i j : Int) : Prop := (-(2 ^ 64) < i ∧ i < 2 ^ 64) ∨ (-(2 ^ 64) < j ∧ j < 2 ^ 64)
theorem CMul.ok {i j : Int} (h : CMul i j) : IntMulOk i j := by
  rcases h with ⟨h1, h2⟩ | ⟨h1, h2⟩
  · exact .of_left (intBits_le_64 h1 h2)
  · exact .of_right (intBits_le_64 h1 h2)
theorem op_add : OpR X (binaryOp .Add) (rI0 fun i j => .int (i + j)) := opI0 fun _ _ _ _ _ _ _ q => add_int q
theorem op_sub : OpR X (binaryOp .Sub) (rI0 fun i j => .int (i - j)) := opI0 fun _ _ _ _ _ _ _ q => sub_int q
theorem op_mul : OpR X (binaryOp .Mult) (rI CMul fun i j => .int (i * j)) := opI fun _ _ _ _ _ _ _ hc q => mul_int q hc.ok
/-- // by a positive divisor -/
theorem op_fdiv : OpR X (binaryOp .FloorDiv) (rI CDiv fun i j => .int (i / j)) := opI fun i j _ _ _ _ _ hc q => by
  have h1 : (0 : Int) < j := hc.1
  have h2 : j < 1073741824 := hc.2
  exact floordiv_int (by omega) (by rw [Int.fdiv_eq_ediv_of_nonneg i (by omega)]; exact q) (.inl (PyProof.noPylong_small (by omega)))
/-- % by a positive divisor of any size -/
theorem op_mod : OpR X (binaryOp .Mod) (rI (fun _ j => 0 < j) fun i j => .int (i % j)) := opI fun i j _ _ _ _ _ hc q => by
  have h1 : (0 : Int) < j := hc
  exact mod_int' (by omega) (by rw [Int.fmod_eq_emod_of_nonneg i (by omega)]; exact q)
theorem op_pow : OpR X (binaryOp .Pow) (rI CPow fun i j => .int (i ^ j.toNat)) := opI fun _ _ _ _ _ _ _ hc q => pow_int_small hc.1 hc.2.1 hc.2.2 q
theorem unI {f : Value → Sem Value} {g : Int → Int}
    (rule : ∀ (i : Int) (t : Tok) (s : Shared) (Q : Value → Shared → Prop) (E : Value → Shared → Prop), Q (.int (g i) s.toks) { s with toks := s.toks + 1 } → wpAny (model X.prog X.w) X.A (f (.int i t)) Q E s) :
    UnR X f (rU fun i => .int (g i)) := by
  intro pins s σ H x v Q I rx h
  obtain ⟨i, rfl, q⟩ := h
  obtain ⟨t, rfl⟩ := rx
  exact rule i t s _ _ ⟨.int (g i), H, I.tok _, ⟨_, rfl⟩, q⟩
theorem un_neg : UnR X (unaryOp .USub) (rU fun i => .int (-i)) := unI fun _ _ _ _ _ q => neg_int q
/-! ### bools among ints: n += (a < b) -/
end

/-! ### comparisons -/
/-- the scalars that == tells apart as data does -/
def scal : V → V → Bool
  | .non, .non => true | .non, .int _ => true | .int _, .non => true | .non, .bl _ => true | .bl _, .non => true | .non, .str _ => true | .str _, .non => true
  | .int _, .int _ => true | .bl _, .bl _ => true | .str _, .str _ => true | .byt _, .byt _ => true
  | .int _, .str _ => true | .str _, .int _ => true | .bl _, .str _ => true | .str _, .bl _ => true
  | _, _ => false
def rEq : R2 := fun x y H Q => scal x y = true ∧ Q (.bl (decide (x = y))) H
def rNe : R2 := fun x y H Q => scal x y = true ∧ Q (.bl (!decide (x = y))) H

section
variable {X : Cx} {a b c : Expr} {ta tb tc : TE} {pos : Pos}
theorem op_lt : OpR X (compareOp .Lt) (rI0 fun i j => .bl (decide (i < j))) := opB0 fun _ _ _ _ _ _ _ q => lt_int q
theorem op_le : OpR X (compareOp .LtE) (rI0 fun i j => .bl (decide (i ≤ j))) := opB0 fun _ _ _ _ _ _ _ q => le_int q
theorem op_gt : OpR X (compareOp .Gt) (rI0 fun i j => .bl (decide (j < i))) := opB0 fun _ _ _ _ _ _ _ q => gt_int q
theorem op_ge : OpR X (compareOp .GtE) (rI0 fun i j => .bl (decide (j ≤ i))) := opB0 fun _ _ _ _ _ _ _ q => ge_int q
/-- is, is not of two objects that are tracked lists or instances -/
def isObj : HO → Bool
  | .lst _ => true
  | .ins _ _ _ => true
  | _ => false
/-- two rules for one operation: by cases -/
theorem OpR.or {f : Value → Value → Sem Value} {r r' : R2} (h : OpR X f r) (h' : OpR X f r') : OpR X f (fun x y H Q => r x y H Q ∨ r' x y H Q) := by
  intro pins s σ H x y v u Q I rx ry q
  rcases q with q | q
  · exact h pins s σ H x y v u Q I rx ry q
  · exact h' pins s σ H x y v u Q I rx ry q

theorem nomark (b : Expr) {op : CmpOp} (h : op ≠ .In := by decide) (h2 : op ≠ .NotIn := by decide) : behindInMarks op b = false := by
  have e1 : (op == CmpOp.In) = false := by cases op <;> first | rfl | exact absurd rfl h
  have e2 : (op == CmpOp.NotIn) = false := by cases op <;> first | rfl | exact absurd rfl h2
  cases b <;> simp [behindInMarks, e1, e2]
/-- a comparison as a value; hm: nomark b, or (for in, not in) by with_unfolding_all rfl -/
theorem pe_cmpR {op : CmpOp} {r : R2} (ho : OpR X (compareOp op) r) (ha : PE X a ta) (hb : PE X b tb) (hm : behindInMarks op b = false) : PE X (.Compare a [op] [b] pos) (tOp r ta tb) := by
  intro pins s σ H Q I h
  exact wpAny_Compare1 (binT ha hb I h fun v u s2 x y H2 I2 rx ry q => ho pins s2 σ H2 x y v u Q I2 rx ry q) hm
/-- a reading of a value as a test -/
def tTest (t : TE) : TT := fun σ H Q => t σ H fun x H' => ∃ k, x = .bl k ∧ Q k H'
theorem pt_cmpR {op : CmpOp} {r : R2} (ho : OpR X (compareOp op) r) (ha : PE X a ta) (hb : PE X b tb) (hm : behindInMarks op b = false) : PT X (.Compare a [op] [b] pos) (tTest (tOp r ta tb)) := by
  intro pins s σ H Q I h
  refine wpAny_isTrue_Compare1 (thn (ha pins s σ H _ I h) fun v s1 ⟨x, H1, I1, r1, q1⟩ => thn (hb pins s1 σ H1 _ I1 q1) fun u s2 ⟨y, H2, I2, r2, q2⟩ =>
    thn (ho pins s2 σ H2 x y v u _ I2 r1 r2 q2) fun c s3 ⟨z, H3, I3, r3, k, e, q3⟩ => ?_) hm
  subst e
  cases r3
  exact wpAny_truthy_bool ⟨H3, I3, q3⟩
/-- a op1 b op2 c -/
def tChain (r r' : R2) (ta tb tc : TE) : TE := fun σ H Q => ta σ H fun x H1 => tb σ H1 fun y H2 => r x y H2 fun z H3 => ∃ k, z = .bl k ∧
  (if k = true then tc σ H3 fun w' H4 => r' y w' H4 Q else Q (.bl false) H3)
theorem pe_chain {op op' : CmpOp} {r r' : R2} (ho : OpR X (compareOp op) r) (ho' : OpR X (compareOp op') r') (ha : PE X a ta) (hb : PE X b tb) (hc : PE X c tc)
    (hm : lastMarks [op, op'] [b, c] = false := by with_unfolding_all rfl) : PE X (.Compare a [op, op'] [b, c] pos) (tChain r r' ta tb tc) := by
  intro pins s σ H Q I h
  refine Compare_chain (thn (ha pins s σ H _ I h) fun v s1 ⟨x, H1, I1, r1, q1⟩ => chain_link (thn (hb pins s1 σ H1 _ I1 q1) fun u s2 ⟨y, H2, I2, r2, q2⟩ =>
    thn (ho pins s2 σ H2 x y v u _ I2 r1 r2 q2) fun d s3 ⟨z, H3, I3, r3, k, e, q3⟩ => ?_)) hm
  subst e
  cases r3
  refine wpAny_truthy_bool ?_
  cases k with
  | false => exact ite_ff ⟨.bl false, H3, I3, rfl, q3⟩
  | true => exact ite_tt (chain_last (thn (hc pins s3 σ H3 _ I3 q3) fun w' s4 ⟨z', H4, I4, r4, q4⟩ => ho' pins s4 σ H4 y z' u w' Q I4 r2 r4 q4))
/-! ### truth -/
/-- a value's truth by the abstract heap -/
def TruV (K : PySem.W.Frag) (x : V) (H : Hp) (k : Bool) : Prop :=
  match x with
  | .non => k = false
  | .bl b => k = b
  | .int i => k = (i != 0)
  | .str y => y.length ≤ sizeLine ∧ k = ((y.length : Int) != 0)
  | .byt y => y.size ≤ sizeLine ∧ k = ((y.size : Int) != 0)
  | .ref p => (∃ xs, SqL K H p xs ∧ k = !xs.isEmpty) ∨ (∃ xs, SqT K H p xs ∧ k = !xs.isEmpty) ∨ ∃ kvs, H p = some (.dK kvs) ∧ k = !kvs.isEmpty
  | _ => False
theorem isEmpty_kv {κ : Type} {kvs : List (κ × V)} {vs : List (κ × Value)} (r : KV kvs vs) : (!vs.isEmpty) = !kvs.isEmpty := by
  cases r <;> rfl
theorem isEmpty_of {xs : List V} {its : List Value} (r : Vals xs its) : (!its.toArray.isEmpty) = !xs.isEmpty := by
  cases r <;> simp
theorem line63 : (sizeLine : Nat) < 2 ^ 63 := by rw [sizeLine_eq]; decide
theorem tru_ok : TruR X (fun x H Q => ∃ k, TruV X.K x H k ∧ Q k H) := by
  intro pins s σ H x v Q I rx h
  obtain ⟨k, e, q⟩ := h
  have hl := line63
  have hs : sizeLine = 16777216 := sizeLine_eq
  cases x with
  | non =>
    cases rx
    have e' : k = false := e
    subst e'
    exact truthy_none ⟨H, I, q⟩
  | bl b =>
    cases rx
    have e' : k = b := e
    subst e'
    exact wpAny_truthy_bool ⟨H, I, q⟩
  | int i =>
    obtain ⟨t, rfl⟩ := rx
    have e' : k = (i != 0) := e
    subst e'
    exact PySem.P.truthy_int ⟨H, I, q⟩
  | str y =>
    obtain ⟨t, rfl⟩ := rx
    obtain ⟨hy, e'⟩ : y.length ≤ sizeLine ∧ k = ((y.length : Int) != 0) := e
    subst e'
    exact PySem.P.truthy_str (by omega) ⟨H, I.tok _, q⟩
  | byt y =>
    obtain ⟨t, rfl⟩ := rx
    obtain ⟨hy, e'⟩ : y.size ≤ sizeLine ∧ k = ((y.size : Int) != 0) := e
    subst e'
    exact PySem.W.truthy_bytes (by omega) ⟨H, I.tok _, q⟩
  | ref p =>
    cases rx
    have e' : (∃ xs, SqL X.K H p xs ∧ k = !xs.isEmpty) ∨ (∃ xs, SqT X.K H p xs ∧ k = !xs.isEmpty) ∨ ∃ kvs, H p = some (.dK kvs) ∧ k = !kvs.isEmpty := e
    rcases e' with ⟨xs, hx, e'⟩ | ⟨xs, hx, e'⟩ | ⟨kvs, hx, e'⟩
    · subst e'
      obtain ⟨its, r, pl, hz⟩ := I.list hx
      have hlen := r.length
      exact wpAny_truthy_list pl.isList (by simp only [List.size_toArray]; omega) ⟨H, I.tok _, by rw [isEmpty_of r]; exact q⟩
    · subst e'
      obtain ⟨its, r, pl, hz⟩ := I.tuple hx
      have hlen := r.length
      exact truthy_tuple pl (by simp only [List.size_toArray]; omega) ⟨H, I.tok _, by rw [isEmpty_of r]; exact q⟩
    · subst e'
      obtain ⟨hz, hS, vs, r, m⟩ : kvs.length ≤ sizeLine ∧ (p == sysModules) = false ∧ ∃ vs, KV kvs vs ∧ s.heap.DictOf (mixKind X.prog X.w) p vs := I.hok p _ hx
      have hlen : kvs.length = vs.length := Paired.length r
      exact wpAny_truthy_dict hS m (by omega) ⟨H, I.tok _, by rw [isEmpty_kv r]; exact q⟩
  | _ => exact (show False from e).elim
/-- any expression whose test is its value's truth (a name, a call, a subscript, a field ..: he by fun _ => rfl) -/
theorem pt_truth (ha : PE X a ta) (he : ∀ whole, isTrue a X.env whole = (do let v ← whole; standAt a.pos; holding [v] (truthy v))) :
    PT X a (fun σ H Q => ta σ H fun x H' => ∃ k, TruV X.K x H' k ∧ Q k H') := by
  intro pins s σ H Q I h
  exact isTrue_plain (thn (ha pins s σ H _ I h) fun v s1 ⟨x, H1, I1, r1, q1⟩ => tru_ok pins s1 σ H1 x v Q I1 r1 q1) (he _)

/-! ### strs and bytes -/
def PlainIxT (b : Expr) : Prop := ∀ o i, subscripted b false o i = operate [o, i] (getItem o i)
/-! ### scalar builtins, by CallR -/
theorem vals1 {x : V} {us : List Value} (r : Vals [x] us) : ∃ u, us = [u] ∧ RelV x u := by
  cases r with
  | cons r1 r2 => cases r2; exact ⟨_, rfl, r1⟩
theorem vals2 {x y : V} {us : List Value} (r : Vals [x, y] us) : ∃ u w', us = [u, w'] ∧ RelV x u ∧ RelV y w' := by
  cases r with
  | cons r1 r2 =>
    cases r2 with
    | cons r3 r4 => cases r4; exact ⟨_, _, rfl, r1, r3⟩
theorem call_abs : CallR X (.builtin "abs") (fun xs H Q => ∃ i, xs = [.int i] ∧ Q (.int (if i < 0 then -i else i)) H) := by
  intro pins s σ H xs us Q I r h
  obtain ⟨i, rfl, q⟩ := h
  obtain ⟨u, rfl, t, rfl⟩ := vals1 r
  exact call_abs_int fun u tk => ⟨.int (if i < 0 then -i else i), H, I.tok _, ⟨_, rfl⟩, q⟩
theorem call_min2 (hc : X.calm = true) : CallR X (.builtin "min") (fun xs H Q => ∃ i j, xs = [.int i, .int j] ∧ Q (.int (if j < i then j else i)) H) := by
  intro pins s σ H xs us Q I r h
  obtain ⟨i, j, rfl, q⟩ := h
  obtain ⟨u, w', rfl, ⟨t, rfl⟩, ⟨t', rfl⟩⟩ := vals2 r
  refine min_two_ints (I.ok.hd hc) fun h' tk k => ⟨_, H, I.kept k, ?_, q⟩
  by_cases hj : j < i
  · rw [if_pos hj, if_pos hj]; exact ⟨_, rfl⟩
  · rw [if_neg hj, if_neg hj]; exact ⟨_, rfl⟩
theorem call_int1 : CallR X (.type "int") (fun xs H Q => (∃ i, xs = [.int i] ∧ Q (.int i) H) ∨ ∃ k, xs = [.bl k] ∧ Q (.int (if k then 1 else 0)) H) := by
  intro pins s σ H xs us Q I r h
  rcases h with ⟨i, rfl, q⟩ | ⟨k, rfl, q⟩
  · obtain ⟨u, rfl, t, rfl⟩ := vals1 r
    exact call_int_int ⟨.int i, H, I, ⟨_, rfl⟩, q⟩
  · obtain ⟨u, rfl, r1⟩ := vals1 r
    cases r1
    exact call_int_bool ⟨.int (if k then 1 else 0), H, I.tok _, ⟨_, rfl⟩, q⟩
/-- len of a str, a bytes, a list, a tuple -/
def LenV (K : PySem.W.Frag) (x : V) (H : Hp) (n : Nat) : Prop :=
  match x with
  | .str y => y.length ≤ sizeLine ∧ n = y.length
  | .byt y => y.size ≤ sizeLine ∧ n = y.size
  | .ref p => (∃ xs, SqL K H p xs ∧ n = xs.length) ∨ ∃ xs, SqT K H p xs ∧ n = xs.length
  | _ => False
theorem call_len : CallR X (.builtin "len") (fun xs H Q => ∃ x n, xs = [x] ∧ LenV X.K x H n ∧ Q (.int n) H) := by
  intro pins s σ H xs us Q I r h
  obtain ⟨x, n, rfl, e, q⟩ := h
  obtain ⟨u, rfl, rx⟩ := vals1 r
  have hl := line63
  have hs : sizeLine = 16777216 := sizeLine_eq
  cases x with
  | str y =>
    obtain ⟨t, rfl⟩ := rx
    obtain ⟨hy, e'⟩ : y.length ≤ sizeLine ∧ n = y.length := e
    subst e'
    exact len_str (by omega) ⟨.int _, H, I.tok _, ⟨_, rfl⟩, q⟩
  | byt y =>
    obtain ⟨t, rfl⟩ := rx
    obtain ⟨hy, e'⟩ : y.size ≤ sizeLine ∧ n = y.size := e
    subst e'
    exact PySem.W.len_bytes (by omega) ⟨.int _, H, I.tok _, ⟨_, rfl⟩, q⟩
  | ref p =>
    cases rx
    have e' : (∃ xs, SqL X.K H p xs ∧ n = xs.length) ∨ ∃ xs, SqT X.K H p xs ∧ n = xs.length := e
    rcases e' with ⟨xs, hx, e'⟩ | ⟨xs, hx, e'⟩
    · subst e'
      obtain ⟨its, r', pl, hz⟩ := I.list hx
      have hlen := r'.length
      exact Calls.call_len_list pl.isList (by simp only [List.size_toArray]; omega) ⟨.int xs.length, H, I.tok _, ⟨_, by simp only [List.size_toArray]; rw [hlen]⟩, q⟩
    · subst e'
      obtain ⟨its, r', pl, hz⟩ := I.tuple hx
      have hlen := r'.length
      exact len_tuple pl (by simp only [List.size_toArray]; omega) ⟨.int xs.length, H, I.tok _, ⟨_, by simp only [List.size_toArray]; rw [hlen]⟩, q⟩
  | _ => exact (show False from e).elim
end
end L2

namespace L2
open PySem PySem.Spec PyProof.Rows

/-! ### an instance, its attributes a map -/
structure ObjM (h : Heap) (x dx C : Addr) (mA : Str → Option Value) : Prop where
  obj : h.get? x = some (PySem.W.instObj C dx)
  ns : h.Ns1 dx mA
  ne : dx ≠ x

theorem lookIn_ns {h : Heap} {dx : Addr} {mA : Str → Option Value} (n : h.Ns1 dx mA) : ∃ od, h.get? dx = some od ∧ ∀ name, PySem.W.lookIn name od = some (mA name) := by
  obtain ⟨o, es, ep, ho, hd, hk, _, hm⟩ := n
  refine ⟨o, ho, fun name => ?_⟩
  have e := hm name
  unfold nsFind findBy at e
  rw [← Array.find?_toList] at e
  unfold PySem.W.lookIn
  rw [hd]
  dsimp only
  split
  · rename_i y q
    rw [q] at e
    exact congrArg some e
  · rename_i q
    rw [q] at e
    have a : es.toList.any (·.refKey) = false := by
      rw [List.any_eq_false]
      intro y hy
      obtain ⟨z, t, hkey⟩ := hk y (Array.mem_toList_iff.mp hy)
      simp [DictEntry.refKey, hkey]
    have a' : ¬ es.toList.any (·.refKey) = true := by rw [a]; exact Bool.false_ne_true
    rw [if_neg a']
    exact congrArg some e

theorem ObjM.look {h : Heap} {x dx C : Addr} {mA : Str → Option Value} (I : ObjM h x dx C mA) : ∃ od, PySem.W.InstAt h x (PySem.W.instObj C dx) C (some od) ∧ ∀ name, PySem.W.lookIn name od = some (mA name) :=
  let ⟨od, ho, hl⟩ := lookIn_ns I.ns
  ⟨od, ⟨I.obj, rfl, rfl, ho⟩, hl⟩

section
variable {prog : Program} {w : World} {A : Around} {E : Value → Shared → Prop} {s : Shared} {K : PySem.W.Frag} {x dx C f : Addr} {mA : Str → Option Value} {name : Str} {v : Value}

theorem get_map {expr : Bool} {Q : Value → Shared → Prop} (X : K.In s.heap) (I : ObjM s.heap x dx C mA) (hg : PySem.W.plainGet K C name = true) (hh : PySem.W.hasDictIn K C = true)
    (ha : PySem.W.findIn K (.ref C) name = some none) (hv : mA name = some v) (hv' : PySem.W.handedIn v = true) (h : Q v { s with toks := s.toks + 1 }) :
    wpAny (model prog w) A (getAttr (.ref x) name expr) Q E s := by
  obtain ⟨od, J, hl⟩ := I.look
  exact PySem.W.get_value X J (PySem.W.plainGet_of hg).1 (PySem.W.findObj_own hh ha rfl (by rw [hl, hv])) hv' h

theorem get_meth {pl : Sem Bool} {Q : Value × List Value → Shared → Prop} (X : K.In s.heap) (I : ObjM s.heap x dx C mA) (hg : PySem.W.plainGet K C name = true)
    (hf : PySem.W.findIn K (.ref C) name = some (some (.ref f))) (ht : PySem.W.isFn K (.ref f) = true) (hv : mA name = none) (h : Q (.ref f, [.ref x]) s) :
    wpAny (model prog w) A (getMethod (.ref x) name pl) Q E s := by
  obtain ⟨od, J, hl⟩ := I.look
  exact PySem.W.method_fn X J (PySem.W.plainGet_of hg).1 (PySem.W.plainGet_of hg).2 hf (beq_iff_eq.mp ht) (by show (PySem.W.lookIn name od).map (·.isSome) = some false; rw [hl, hv]; rfl) h

theorem set_map {ns : List Str} {Q : Unit → Shared → Prop} (X : K.In s.heap) (I : ObjM s.heap x dx C mA)
    (hs : PySem.W.findIn K (.ref C) "__setattr__" = some (some (.builtin "object.__setattr__"))) (hp : PySem.W.plainOver K C = true) (ht : PySem.W.takerIn K C name = some none) (hh : PySem.W.hasDictIn K C = true)
    (hw : PySem.Within mA ns) (hsz : ns.length ≤ sizeLine)
    (h : ∀ h', ObjM h' x dx C (fun y => if y = name then some v else mA y) → Heap.SameBut dx s.heap h' → Q () { s with heap := h', toks := s.toks + 2 }) :
    wpAny (model prog w) A (setAttr (.ref x) name v) Q E s := by
  obtain ⟨od, J, hl⟩ := I.look
  refine PySem.W.set_plain X J hs (PySem.W.osa_open (s := { s with toks := s.toks + 1 }) (r := none) X J hp ht fun b => ?_)
  obtain ⟨cd, hc, hd'⟩ := PySem.W.any_some hh
  have hx : s.heap.get? x = some ⟨.ref C, some dx, .plain, #[]⟩ := I.obj
  refine wpAny_bind (wpAny_pure (wpAny_bind (wpAny_bind (wpAny_loadPart hx (wpAny_bind (PySem.W.Looks.here (s := { s with toks := s.toks + 1 }) (PySem.W.looks_clsIn X hc) ?_))))))
  rw [hd']
  refine wpAny_pure (a := some dx) (wpAny_bind (wpAny_pure (wpAny_bind ?_)))
  refine wpAny_nsSet1 (s := { s with toks := s.toks + 1 }) I.ns fun h' hn2 hs2 => ?_
  obtain ⟨oD, esD, epD, hoD, hdD, hcD⟩ := hn2.count (PySem.Within.cons name v hw)
  refine wpAny_bind (wpAny_lookBehind hoD (by rw [hdD]; exact pastItsLine_dict (Nat.le_trans hcD (by rw [List.length_cons]; omega))) ?_)
  exact wpAny_pure (h _ ⟨(hs2.2 _ (Ne.symm I.ne)).trans I.obj, hn2, I.ne⟩ hs2)

/-- C(..): the dict at the heap's end, the instance behind it; then its __init__ -/
theorem make_map {R : Result → Shared → Prop} {vs : List Value} {kw : List (Str × Value)} (X : K.In s.heap) (hm : PySem.W.makesIn K C = true)
    (hi : PySem.W.findIn K (.ref C) "__init__" = some (some (.ref f))) (hf : PySem.W.typeIn K (.ref f) = some (.type "function"))
    (h : codeAny (model prog w) (A.under (.builtin "type.__call__" ⟨.ref C :: vs, kw⟩)) (.call (.ref f) ⟨.ref (s.heap.objs.size + 1) :: vs, kw⟩) (PySem.W.InitBack (s.heap.objs.size + 1) R)
      { s with heap := (s.heap.push PySem.W.emptyDict).push (PySem.W.instObj C s.heap.objs.size) }) :
    codeAny (model prog w) A (.call (.ref C) ⟨vs, kw⟩) R s := by
  obtain ⟨hh, g, d, t, os⟩ := s
  exact PySem.W.make_core (PySem.W.makes_of X hm) (PySem.W.looks_findIn X hi) (fun self => PySem.W.bind_fn X self hf) (.inl rfl) h
end

/-! ### the attributes as a list of pairs -/
def putF (f : Str) (v : V) : List (Str × V) → List (Str × V)
  | [] => [(f, v)]
  | (g, x) :: r => if g = f then (g, v) :: r else (g, x) :: putF f v r
theorem lookup_putF (f g : Str) (v : V) : ∀ fs : List (Str × V), (putF f v fs).lookup g = if g = f then some v else fs.lookup g
  | [] => by
    show List.lookup g [(f, v)] = _
    by_cases h : g = f
    · have hb : (g == f) = true := beq_iff_eq.mpr h
      simp only [List.lookup, hb, if_pos h]
    · have hb : (g == f) = false := beq_eq_false_iff_ne.mpr h
      simp only [List.lookup, hb, if_neg h]
  | (k, x) :: r => by
    have ih := lookup_putF f g v r
    rw [show putF f v ((k, x) :: r) = (if k = f then (k, v) :: r else (k, x) :: putF f v r) from rfl]
    by_cases hk : k = f
    · rw [if_pos hk]
      by_cases h : g = k
      · have hb : (g == k) = true := beq_iff_eq.mpr h
        simp only [List.lookup, hb, if_pos (h.trans hk)]
      · have hb : (g == k) = false := beq_eq_false_iff_ne.mpr h
        simp only [List.lookup, hb, if_neg (fun e : g = f => h (e.trans hk.symm))]
    · rw [if_neg hk]
      by_cases h : g = k
      · have hb : (g == k) = true := beq_iff_eq.mpr h
        simp only [List.lookup, hb, if_neg (fun e : g = f => hk (h.symm.trans e))]
      · have hb : (g == k) = false := beq_eq_false_iff_ne.mpr h
        simp only [List.lookup, hb]
        exact ih
theorem keys_putF (f : Str) (v : V) : ∀ fs : List (Str × V), f ∈ (putF f v fs).map (·.1) ∧ ∀ g, g ∈ fs.map (·.1) → g ∈ (putF f v fs).map (·.1)
  | [] => ⟨by simp [putF], fun g h => by simp at h⟩
  | (k, x) :: r => by
    obtain ⟨i1, i2⟩ := keys_putF f v r
    rw [show putF f v ((k, x) :: r) = (if k = f then (k, v) :: r else (k, x) :: putF f v r) from rfl]
    by_cases hk : k = f
    · rw [if_pos hk]
      subst hk
      exact ⟨by simp, fun g h => by simpa using h⟩
    · rw [if_neg hk]
      refine ⟨?_, fun g h => ?_⟩
      · rw [List.map_cons]
        exact List.mem_cons_of_mem _ i1
      · rw [List.map_cons] at h ⊢
        rcases List.mem_cons.mp h with e | e
        · exact List.mem_cons.mpr (.inl e)
        · exact List.mem_cons_of_mem _ (i2 g e)
theorem length_putF (f : Str) (v : V) : ∀ fs : List (Str × V), (putF f v fs).length ≤ fs.length + 1
  | [] => by simp [putF]
  | (k, x) :: r => by
    have ih := length_putF f v r
    rw [show putF f v ((k, x) :: r) = (if k = f then (k, v) :: r else (k, x) :: putF f v r) from rfl]
    by_cases hk : k = f
    · rw [if_pos hk, List.length_cons, List.length_cons]; omega
    · rw [if_neg hk, List.length_cons, List.length_cons]; omega

theorem RelO.some_of {v : V} {o : Option Value} (r : RelO (some v) o) : ∃ u, o = some u ∧ RelV v u := by
  cases o with
  | none => exact (show False from r).elim
  | some u => exact ⟨u, rfl, r⟩
theorem RelO.none_of {o : Option Value} (r : RelO none o) : o = none := by
  cases o with
  | none => rfl
  | some u => exact (show False from r).elim
theorem handed_of {v : V} {u : Value} (r : RelV v u) : PySem.W.handedIn u = true := by
  cases v with
  | non => cases (show u = Value.none from r); rfl
  | bl b => cases (show u = Value.bool b from r); rfl
  | int i => obtain ⟨t, e⟩ := (show ∃ t, u = Value.int i t from r); cases e; rfl
  | str x => obtain ⟨t, e⟩ := (show ∃ t, u = Value.str x t from r); cases e; rfl
  | byt b => obtain ⟨t, e⟩ := (show ∃ t, u = Value.bytes b t from r); cases e; rfl
  | flt b => obtain ⟨t, e⟩ := (show ∃ t, u = Value.float b t from r); cases e; rfl
  | ref a => cases (show u = Value.ref a from r); rfl
  | ty n => cases (show u = Value.type n from r); rfl

section
variable {P : Program} {w : World} {H H' : Hp} {h h' : Heap} {a C dx : Addr} {fs fs' : List (Str × V)}
theorem ins_get (hok : HOk P w H h) (e : H a = some (.ins C dx fs)) : ∃ mA, ObjM h a dx C mA ∧ (∀ f, RelO (fs.lookup f) (mA f)) ∧ PySem.Within mA (fs.map (·.1)) ∧ fs.length ≤ 1000 ∧ H dx = some (.own a) := by
  obtain ⟨d, z, ne, ob, mA, n, r, q⟩ := (show ObjOk P w H h a (.ins C dx fs) from hok a _ e)
  exact ⟨mA, ⟨ob, n, ne⟩, r, q, z, d⟩
end

/-! ### what of the text a class must have -/
structure Cls (K : PySem.W.Frag) (C : Addr) : Prop where
  pg : PySem.W.plainGet K C Str.empty = true
  hd : PySem.W.hasDictIn K C = true
  po : PySem.W.plainOver K C = true
  sa : PySem.W.findIn K (.ref C) "__setattr__" = some (some (.builtin "object.__setattr__"))
theorem Cls.get {K : PySem.W.Frag} {C : Addr} (c : Cls K C) (f : Str) : PySem.W.plainGet K C f = true := c.pg
/-- no class of it has the name -/
def NoAttr (K : PySem.W.Frag) (C : Addr) (f : Str) : Prop := PySem.W.findIn K (.ref C) f = some none
theorem NoAttr.taker {K : PySem.W.Frag} {C : Addr} {f : Str} (n : NoAttr K C f) : PySem.W.takerIn K C f = some none := by
  unfold PySem.W.takerIn
  rw [show PySem.W.findIn K (.ref C) f = some none from n]
  rfl
/-- a constant of the class -/
structure Con (K : PySem.W.Frag) (C : Addr) (f : Str) (v : V) (u : Value) : Prop where
  at_ : PySem.W.findIn K (.ref C) f = some (some u)
  rel : RelV v u
  get : PySem.W.specialIn K u "__get__" = some none
  cp : PySem.W.copiedNames.contains f = false
/-- a method: a plain def of the class or of one above it -/
structure Meth (K : PySem.W.Frag) (C : Addr) (m : Str) (f : Addr) : Prop where
  at_ : PySem.W.findIn K (.ref C) m = some (some (.ref f))
  fn : PySem.W.isFn K (.ref f) = true
  kp : PySem.W.keepIn K (.ref f) = true

section
variable {X : Cx} {pins : List (Addr × Obj)} {σ : St} {H : Hp} {s : Shared} {a C dx : Addr} {fs : List (Str × V)} {f : Str} {v : V} {A : Around} {E : Value → Shared → Prop}

theorem getattr_ok {b : Bool} {Q : Value → Shared → Prop} (I : Inv X pins σ H s) (e : H a = some (.ins C dx fs)) (c : Cls X.K C) (n : NoAttr X.K C f) (l : fs.lookup f = some v)
    (h : ∀ u s', Inv X pins σ H s' → RelV v u → Q u s') : wpAny (model X.prog X.w) A (getAttr (.ref a) f b) Q E s := by
  obtain ⟨mA, O, r, _, _, _⟩ := ins_get I.hok e
  obtain ⟨u, hu, ru⟩ := RelO.some_of (v := v) (o := mA f) (by rw [← l]; exact r f)
  exact get_map I.kIn O (c.get f) c.hd n hu (handed_of ru) (h u _ (I.tok _) ru)

theorem getmeth_ok {m : Str} {g : Addr} {pl : Sem Bool} {Q : Value × List Value → Shared → Prop} (I : Inv X pins σ H s) (e : H a = some (.ins C dx fs)) (c : Cls X.K C) (k : Meth X.K C m g) (l : fs.lookup m = none)
    (h : Q (.ref g, [.ref a]) s) : wpAny (model X.prog X.w) A (getMethod (.ref a) m pl) Q E s := by
  obtain ⟨mA, O, r, _, _, _⟩ := ins_get I.hok e
  have hn : mA m = none := RelO.none_of (by rw [← l]; exact r m)
  exact get_meth I.kIn O (c.get m) k.at_ k.fn hn h

theorem setattr_ok {y : V} {u : Value} {Q : Unit → Shared → Prop} (I : Inv X pins σ H s) (e : H a = some (.ins C dx fs)) (c : Cls X.K C) (n : NoAttr X.K C f) (hl : fs.length < 1000) (ry : RelV y u)
    (h : ∀ s', Inv X pins σ (upd H a (.ins C dx (putF f y fs))) s' → Q () s') : wpAny (model X.prog X.w) A (setAttr (.ref a) f u) Q E s := by
  obtain ⟨mA, O, r, wi, _, ho⟩ := ins_get I.hok e
  have hz : (fs.map (·.1)).length ≤ sizeLine := by rw [List.length_map, sizeLine_eq]; omega
  refine set_map I.kIn O c.sa c.po n.taker c.hd wi hz fun h' O' sb => h _ ?_
  have hd : ∃ o, h'.get? dx = some o := let ⟨o, _, _, e', _⟩ := O'.ns; ⟨o, e'⟩
  refine I.write (x := a) (e := dx) (by rw [e]; exact True.intro) (.inr ho) (fun b q hb z => (sb.2 b hb).trans z) hd ?_
  refine ⟨by rw [upd_ne O.ne]; exact ho, ?_, O.ne, O'.obj, _, O'.ns, fun g => ?_, fun g hg => ?_⟩
  · have := length_putF f y fs; omega
  · show RelO ((putF f y fs).lookup g) (if g = f then some u else mA g)
    rw [lookup_putF]
    by_cases q : g = f
    · rw [if_pos q, if_pos q]; exact ry
    · rw [if_neg q, if_neg q]; exact r g
  · by_cases q : g = f
    · rw [q]; exact (keys_putF f y fs).1
    · refine (keys_putF f y fs).2 g (wi g fun z => hg ?_)
      show (if g = f then some u else mA g) = none
      rw [if_neg q]; exact z

/-- a new instance, tracked, without attributes -/
theorem Inv.made (I : Inv X pins σ H s) : Inv X pins σ (upd (upd H s.heap.objs.size (.own (s.heap.objs.size + 1))) (s.heap.objs.size + 1) (.ins C s.heap.objs.size []))
    { s with heap := (s.heap.push PySem.W.emptyDict).push (PySem.W.instObj C s.heap.objs.size) } := by
  have e1 : (s.heap.push PySem.W.emptyDict).get? s.heap.objs.size = some PySem.W.emptyDict := Heap.get?_push_size s.heap rfl
  have e2 : ((s.heap.push PySem.W.emptyDict).push (PySem.W.instObj C s.heap.objs.size)).get? (s.heap.objs.size + 1) = some (PySem.W.instObj C s.heap.objs.size) := by
    have := Heap.get?_push_size (s.heap.push PySem.W.emptyDict) (o := PySem.W.instObj C s.heap.objs.size) rfl
    rwa [Heap.size_push] at this
  have e3 : (s.heap.push PySem.W.emptyDict).Ns s.heap.objs.size (fun _ => none) := ⟨PySem.W.emptyDict, #[], _, e1, rfl, (fun e he => absurd he (by simp)), fun _ => rfl⟩
  have I1 := I.laid (a := s.heap.objs.size) (o := .own (s.heap.objs.size + 1)) (h' := s.heap.push PySem.W.emptyDict) (t' := s.toks) (fun b u q => Heap.get?_push_of_some _ q) (Nat.le_refl _) ⟨_, e1⟩
  refine I1.laid (a := s.heap.objs.size + 1) (o := .ins C s.heap.objs.size []) (t' := s.toks) (fun b u q => Heap.get?_push_of_some _ q) (Nat.le_of_eq (Heap.size_push _ _)) ?_
  have ne : s.heap.objs.size ≠ s.heap.objs.size + 1 := Nat.ne_of_lt (Nat.lt_succ_self _)
  refine ⟨by rw [upd_ne ne, upd_same], Nat.zero_le _, ne, e2, fun _ => none, (Heap.Ns1.of_empty e3).at fun o q => Heap.get?_push_of_some _ q, fun _ => True.intro, fun y hy => absurd rfl hy⟩

/-- e.f where nothing but the object is asked: through attributeBase (super) and the last hold -/
theorem attr_of {prog : Program} {w : World} {env : Env} {e : Expr} {f : Str} {pos : Pos} {s : Shared} {Q : Value → Shared → Prop} (hb : attributeBase e f env (eval e env) = eval e env)
    (h : wpAny (model prog w) A (eval e env) (fun o s₁ => wpAny (model prog w) A (getAttr o f true) Q E s₁) E s) : wpAny (model prog w) A (eval (.Attribute e f pos) env) Q E s :=
  Attribute_any_ h (by rw [arm_eval_Attribute, hb])
end

/-! ### readings and rules -/
/-- e.f, an attribute of the instance -/
def tFld (K : PySem.W.Frag) (ta : TE) (f : Str) : TE := fun σ H Q => ta σ H fun x H1 => ∃ a C dx fs v, x = .ref a ∧ H1 a = some (.ins C dx fs) ∧ Cls K C ∧ NoAttr K C f ∧ fs.lookup f = some v ∧ Q v H1
/-- e.f, a constant of the class -/
def tCon (K : PySem.W.Frag) (ta : TE) (f : Str) : TE := fun σ H Q => ta σ H fun x H1 => ∃ a C dx fs v u, x = .ref a ∧ H1 a = some (.ins C dx fs) ∧ Cls K C ∧ Con K C f v u ∧ fs.lookup f = none ∧ Q v H1
/-- e.f = value -/
def sFld (K : PySem.W.Frag) (ta tv : TE) (f : Str) : TS := fun D σ H => tv σ H fun y H1 => ta σ H1 fun x H2 => ∃ a C dx fs, x = .ref a ∧ H2 a = some (.ins C dx fs) ∧ Cls K C ∧ NoAttr K C f ∧ fs.length < 1000 ∧
  D.nx σ (upd H2 a (.ins C dx (putF f y fs)))
/-- an augmented operator on two values -/
def InOp (X : Cx) (op : Operator) (rd : V → V → Hp → VK → Prop) : Prop :=
  ∀ (pins : List (Addr × Obj)) (s : Shared) (σ : St) (H : Hp) (x y : V) (u v : Value) (Q : VK), Inv X pins σ H s → RelV x u → RelV y v → rd x y H Q → wpAny (model X.prog X.w) X.A (inplaceOp op u v) (EP X pins σ Q) X.xe s
/-- e.f op= value -/
def sFldAug (K : PySem.W.Frag) (ta tv : TE) (rd : V → V → Hp → VK → Prop) (f : Str) : TS := fun D σ H => ta σ H fun x H1 => ∃ a C dx fs v, x = .ref a ∧ H1 a = some (.ins C dx fs) ∧ Cls K C ∧ NoAttr K C f ∧ fs.lookup f = some v ∧
  tv σ H1 fun y H2 => rd v y H2 fun z H3 => ∃ dx' fs', H3 a = some (.ins C dx' fs') ∧ fs'.length < 1000 ∧ D.nx σ (upd H3 a (.ins C dx' (putF f z fs')))

section
variable {X : Cx} {o e value : Expr} {f : Str} {pos pos' tpos : Pos} {ta tv : TE}
theorem pe_fld (he : PE X e ta) (hb : attributeBase e f X.env (eval e X.env) = eval e X.env) : PE X (.Attribute e f pos) (tFld X.K ta f) := by
  intro pins s σ H Q I h
  refine attr_of hb (thn (he pins s σ H _ I h) fun u s1 ⟨x, H1, I1, rx, a, C, dx, fs, v, ex, ea, c, n, l, q⟩ => ?_)
  subst ex
  obtain rfl : u = Value.ref a := rx
  exact getattr_ok I1 ea c n l fun u' s2 I2 ru => ⟨v, H1, I2, ru, q⟩
theorem ps_fld (ha : PE X o ta) (hv : PE X value tv) (hs : swapsWith value (some (.Attribute o f pos')) pos.line X.env = pure false) : PS X (.Assign [.Attribute o f pos'] value pos) (sFld X.K ta tv f) := by
  intro pins s σ H D I h
  refine plainObj_wpAny_Assign_Attribute (thn (hv pins s σ H _ I h) fun u s1 ⟨y, H1, I1, ry, q⟩ => thn (ha pins s1 σ H1 _ I1 q) fun ov s2 ⟨x, H2, I2, rx, a, C, dx, fs, ex, ea, c, n, l, q2⟩ => ?_) hs
  subst ex
  obtain rfl : ov = Value.ref a := rx
  exact setattr_ok I2 ea c n l ry fun s3 I3 => ⟨σ, _, I3, q2⟩
def rAdd : V → V → Hp → VK → Prop := fun x y H Q => ∃ i j, x = .int i ∧ y = .int j ∧ Q (.int (i + j)) H
def rSub : V → V → Hp → VK → Prop := fun x y H Q => ∃ i j, x = .int i ∧ y = .int j ∧ Q (.int (i - j)) H
end

/-! ### isinstance -/
section
variable {X : Cx} {pins : List (Addr × Obj)} {σ : St} {H : Hp} {s : Shared} {A : Around} {E : Value → Shared → Prop} {Q : Value → Shared → Prop} {c : Value} {b : Bool}
/-- the type of a value, as the fragment's deciders take it; for an instance its class -/
inductive TyOf (K : PySem.W.Frag) (H : Hp) : V → Value → Prop where
  | non : TyOf K H .non (.type "NoneType")
  | bl (x : Bool) : TyOf K H (.bl x) (.type "bool")
  | int (i : Int) : TyOf K H (.int i) (.type "int")
  | str (x : Str) : TyOf K H (.str x) (.type "str")
  | flt (x : UInt64) : TyOf K H (.flt x) (.type "float")
  | lst {a : Addr} {xs : List V} (e : H a = some (.lst xs)) : TyOf K H (.ref a) (.type "list")
  | frz {a : Addr} {o : Obj} {xs : List V} (e : H a = some (.frz o (.lst xs))) : TyOf K H (.ref a) (.type "list")
  | tup {a : Addr} {xs : List V} (e : H a = some (.tup xs)) : TyOf K H (.ref a) (.type "tuple")
  | dK {a : Addr} {kvs : List (Key × V)} (e : H a = some (.dK kvs)) : TyOf K H (.ref a) (.type "dict")
  | dT {a : Addr} {kvs : List (List Key × V)} (e : H a = some (.dT kvs)) : TyOf K H (.ref a) (.type "dict")
  | ins {a C dx : Addr} {fs : List (Str × V)} (e : H a = some (.ins C dx fs)) (cl : Cls K C) (ha : PySem.W.findIn K (.ref C) "__class__" = some (some (.builtin "object.__class__")))
      (hn : PySem.W.specialIn K (.builtin "object.__class__") "__get__" = some (some (.builtin "getset_descriptor.__get__"))) (htk : PySem.W.takesIn K (.builtin "object.__class__") = some true)
      (hm : PySem.W.mroIn K C (.type "object") = some true) : TyOf K H (.ref a) (.ref C)
end
end L2

namespace L2
open PySem PySem.Spec PyProof.Rows

/-! ### room -/
structure Room (k : Nat) (A : Around) : Prop where
  hd : A.handled = none
  dp : A.depth + 3 * k + 5 < recursionLimit
  un : A.units + 16 * k + 200 < cLine
theorem Room.mono {j k : Nat} {A : Around} (r : Room k A) (h : j ≤ k) : Room j A := ⟨r.hd, by have := r.dp; omega, by have := r.un; omega⟩
theorem Room.deeper {k : Nat} {A : Around} (r : Room (k + 1) A) (env : Env) : Room k (A.deeper env) :=
  ⟨r.hd, by have := r.dp; show A.depth + 1 + 3 * k + 5 < _; omega, by have := r.un; show A.units + 3 + 16 * k + 200 < _; omega⟩
theorem make_depth {A : Around} {C : Addr} {us : List Value} {kw : List (Str × Value)} : (A.under (.builtin "type.__call__" ⟨.ref C :: us, kw⟩)).depth = A.depth + 1 := by
  first | rfl | simp [Around.under, Code.weight, Code.isCreation, Code.isGuard, Code.isCaller, Code.frames, Code.isFrame, guardIds]
theorem make_units {A : Around} {C : Addr} {us : List Value} {kw : List (Str × Value)} : (A.under (.builtin "type.__call__" ⟨.ref C :: us, kw⟩)).units = A.units + 1 := by
  first | rfl | simp [Around.under, Code.cUnits, Code.frames, Code.isFrame]
theorem Room.make {k : Nat} {A : Around} (r : Room (k + 1) A) (C : Addr) (us : List Value) (kw : List (Str × Value)) : Room k (A.under (.builtin "type.__call__" ⟨.ref C :: us, kw⟩)) :=
  ⟨r.hd, by have := r.dp; rw [make_depth]; omega, by have := r.un; rw [make_units]; omega⟩
theorem Room.depth {k : Nat} {A : Around} (r : Room k A) : A.depth < recursionLimit := by have := r.dp; omega
theorem Room.units {k : Nat} {A : Around} (r : Room k A) : A.units + 64 < cLine := by have := r.un; omega
/-! ### argument lists and displays -/
def tNil : TA := fun _ H Q => Q [] H
def tCons (ta : TE) (tr : TA) : TA := fun σ H Q => ta σ H fun x H1 => tr σ H1 fun xs H2 => Q (x :: xs) H2
section
variable {X : Cx} {e : Expr} {es : List Expr} {te : TE} {t : TA} {pos : Pos}
theorem pa_nil : PA X [] tNil := fun _ _ _ _ H Q I h => Calls.spliced_nil ⟨[], H, I, .nil, h⟩
theorem pa_cons (ha : PE X e te) (hr : PA X es t) (hs : starEach (e :: es) X.env = (false, eval e X.env) :: starEach es X.env := by rfl) : PA X (e :: es) (tCons te t) := by
  intro pos pins s σ H Q I h
  rw [hs]
  show wpAny _ _ (spliced ((false, eval e X.env) :: backTo pos (starEach es X.env))) _ _ s
  refine Calls.spliced_cons (thn (ha pins s σ H _ I h) fun u s1 ⟨x, H1, I1, r1, q1⟩ => ?_)
  exact thn (hr pos pins s1 σ H1 _ I1 q1) fun us s2 ⟨xs, H2, I2, r2, q2⟩ => ⟨x :: xs, H2, I2, .cons r1 r2, q2⟩

/-- a tuple, a list of written items -/
def tTup (t : TA) : TE := fun σ H Q => t σ H fun xs H1 => xs.length ≤ sizeLine ∧ ∀ p, H1 p = none → Q (.ref p) (upd H1 p (.tup xs))
def tLst (t : TA) : TE := fun σ H Q => t σ H fun xs H1 => xs.length ≤ sizeLine ∧ ∀ p, H1 p = none → Q (.ref p) (upd H1 p (.lst xs))
theorem pe_tup {x1} (h : PA X es t) : PE X (.Tuple es x1 pos) (tTup t) := by
  intro pins s σ H Q I hq
  refine wpAny_Tuple_spliced (thn (h pos pins s σ H _ I hq) fun us s1 ⟨xs, H1, I1, r, z, q⟩ => ⟨by rw [← r.length]; exact z, ?_⟩)
  have hf : H1 s1.heap.objs.size = none := I1.hok.fresh (Nat.le_refl _)
  refine ⟨.ref s1.heap.objs.size, upd H1 s1.heap.objs.size (.tup xs), I1.laid (t' := s1.toks) (fun b u e => Heap.get?_push_of_some _ e) (Nat.le_refl _) ?_, rfl, q _ hf⟩
  exact ⟨z, us, r, ⟨_, Heap.get?_push_size _ rfl, rfl, _, rfl⟩⟩
theorem pe_lst (h : PA X es t) : PE X (.List es pos) (tLst t) := by
  intro pins s σ H Q I hq
  refine wpAny_List_spliced (thn (h pos pins s σ H _ I hq) fun us s1 ⟨xs, H1, I1, r, z, q⟩ => ⟨by rw [← r.length]; exact z, ?_⟩)
  have hf : H1 s1.heap.objs.size = none := I1.hok.fresh (Nat.le_refl _)
  refine ⟨.ref s1.heap.objs.size, upd H1 s1.heap.objs.size (.lst xs), I1.laid (t' := s1.toks) (fun b u e => Heap.get?_push_of_some _ e) (Nat.le_refl _) ?_, rfl, q _ hf⟩
  exact ⟨z, us, 0, r, Heap.get?_push_size _ rfl⟩
end

/-! ### what a def promises -/
/-- a def's promise: the bound arguments in the parameters' order, the heap, the wanted end, the wanted exception -/
abbrev Sp := List V → Hp → VK → XK → Prop
/-- how an exception lies behind a call (file 08 gives it): the callers' frames, abstract heap and state ahead of the call, the wish, the exception, the state -/
abbrev CXT := List Env → Hp → Shared → XK → Value → Shared → Prop

/-- the state at a call -/
structure Env0 (P : Program) (w : World) (K : PySem.W.Frag) (mg : Str → Option Value) (base : Heap) (A : Around) (outer : List Env) (s : Shared) (H : Hp) : Prop where
  frames : A.frames = some outer
  mod : Mod K mg base
  bs : ∀ b o, base.get? b = some o → s.heap.get? b = some o ∧ H b = none
  bsz : base.objs.size ≤ s.heap.objs.size
  funs : s.heap.FunFrames base outer
  frf : ∀ b ∈ frs outer, H b = none
  hok : HOk P w H s.heap
  bare : AllBare s.gens
/-- a call's end -/
def CE (outer : List Env) (P : Program) (w : World) (H : Hp) (s : Shared) (Q : VK) (u : Value) (s' : Shared) : Prop :=
  ∃ v H', s'.os = s.os ∧ AllBare s'.gens ∧ Un (frs outer) [] H H' s.heap s'.heap ∧ HOk P w H' s'.heap ∧ RelV v u ∧ Q v H'
def CR (CX : CXT) (outer : List Env) (P : Program) (w : World) (H : Hp) (s : Shared) (Q : VK) (E : XK) (r : Result) (s' : Shared) : Prop :=
  match r with
  | .ok (.ret u) => CE outer P w H s Q u s'
  | .ok _ => False
  | .error e => CX outer H s E e s'
structure FnOk (P : Program) (w : World) (K : PySem.W.Frag) (mg : Str → Option Value) (base : Heap) (CX : CXT) (k : Nat) (f : Addr) (fd : FuncData) (ps : List Str) (sp : Sp) : Prop where
  len : ∀ vs H Q E, sp vs H Q E → vs.length = ps.length
  run : ∀ (A : Around) (outer : List Env) (s : Shared) (H : Hp) (args : Args) (us : List Value) (vs : List V) (Q : VK) (E : XK), Room k A → Env0 P w K mg base A outer s H → BindsTo s fd args (ps.zip us) → Vals vs us → sp vs H Q E →
    codeAny (model P w) A (.call (.ref f) args) (CR CX outer P w H s Q E) s
theorem Env0.make {P : Program} {w : World} {K : PySem.W.Frag} {mg : Str → Option Value} {base : Heap} {A : Around} {outer : List Env} {s : Shared} {H : Hp} (e : Env0 P w K mg base A outer s H) (C : Addr) (us : List Value) (kw : List (Str × Value)) :
    Env0 P w K mg base (A.under (.builtin "type.__call__" ⟨.ref C :: us, kw⟩)) outer s H := ⟨by first | exact e.frames | (simpa [Around.under, Code.envs, Code.isFrame, pushEnvs] using e.frames), e.mod, e.bs, e.bsz, e.funs, e.frf, e.hok, e.bare⟩
section
variable {X : Cx} {pins : List (Addr × Obj)} {σ : St} {H : Hp} {s s' : Shared}
/-- from a body: what a callee wants -/
theorem Inv.env0 (I : Inv X pins σ H s) : Env0 X.prog X.w X.K X.mg X.base X.A X.stack s H :=
  ⟨I.ok.frames, I.ok.mod, I.bs, Nat.le_trans I.ok.bsz I.sz, I.stack, I.stkFree, I.hok, I.bare⟩
/-- behind a call -/
theorem Inv.after {Q : VK} {u : Value} (I : Inv X pins σ H s) (h : CE X.stack X.prog X.w H s Q u s') : EP X pins σ Q u s' := by
  obtain ⟨v, H', os, bare, un, hok, r, q⟩ := h
  obtain ⟨hh, g, d, t, os'⟩ := s'
  obtain rfl : os' = s.os := os
  exact ⟨v, H', I.call (h' := hh) (g' := g) (d' := d) (t' := t) (ch := []) un hok bare (fun b z => absurd z (by simp)), r, q⟩
end

/-! ### calls -/
/-- f(..): the written arguments, then the defaults dvs; E: what is wanted of an exception -/
def tCall (sp : Sp) (dvs : List V) (E : XK) (t : TA) : TE := fun σ H Q => t σ H fun vs H1 => sp (vs ++ dvs) H1 Q E
/-- o.m(..) of an instance of the class at C -/
def tMeth (C : Addr) (m : Str) (sp : Sp) (dvs : List V) (E : XK) (ta : TE) (t : TA) : TE := fun σ H Q => ta σ H fun x H1 => ∃ a dx fs, x = .ref a ∧ H1 a = some (.ins C dx fs) ∧ fs.lookup m = none ∧
  t σ H1 fun vs H2 => sp (x :: (vs ++ dvs)) H2 Q E
/-- C(..): a new instance and its dict, then __init__ -/
def tMake (C : Addr) (sp : Sp) (dvs : List V) (E : XK) (t : TA) : TE := fun σ H Q => t σ H fun vs H1 => ∀ x dx, H1 x = none → H1 dx = none → dx ≠ x →
  sp (.ref x :: (vs ++ dvs)) (upd (upd H1 dx (.own x)) x (.ins C dx [])) (fun v H2 => v = .non ∧ Q (.ref x) H2) E

/-- how the parameters are bound: us the positional arguments, kw the keywords' values by name, ds the defaults that fill up -/
def Binds (K : PySem.W.Frag) (fd : FuncData) (ps : List Str) (ds : List Value) : Prop :=
  ∀ (s : Shared) (us : List Value), K.In s.heap → (us ++ ds).length = ps.length → BindsTo s fd ⟨us, []⟩ (ps.zip (us ++ ds))
/-- every parameter is given -/
theorem Binds.all {K : PySem.W.Frag} {fd : FuncData} {ps : List Str} (h : ∀ us : List Value, us.length = ps.length → bindArgs fd ⟨us, []⟩ = pure (ps.zip us)) : Binds K fd ps [] := fun s us _ hl => by
  rw [List.append_nil] at hl ⊢
  exact .of_eq (h us hl)

/-- an exception of a callee reaches what this body wants of exceptions -/
def Passes (CX : CXT) (X : Cx) (E : XK) : Prop := ∀ (pins : List (Addr × Obj)) (σ : St) (H : Hp) (s : Shared) (e : Value) (s' : Shared), Inv X pins σ H s → CX X.stack H s E e s' → X.xe e s'

section
variable {X : Cx} {CX : CXT} {k : Nat} {f C : Addr} {fd : FuncData} {ps : List Str} {sp : Sp} {dvs : List V} {ds : List Value} {E : XK} {x m : Str} {p pos apos : Pos} {e o : Expr} {es : List Expr} {ta : TE} {t : TA}

/-- the callee runs -/
theorem run_fn {pins : List (Addr × Obj)} {σ : St} {H : Hp} {s : Shared} {Q : VK} {us : List Value} {vs : List V} (F : FnOk X.prog X.w X.K X.mg X.base CX k f fd ps sp) (hr : Room k X.A) (hb : Binds X.K fd ps ds) (hd : Vals dvs ds) (hx : Passes CX X E)
    (I : Inv X pins σ H s) (r : Vals vs us) (h : sp (vs ++ dvs) H Q E) : wpAny (model X.prog X.w) X.A (call (.ref f) us) (EP X pins σ Q) X.xe s := by
  have r2 : Vals (vs ++ dvs) (us ++ ds) := r.append hd
  have hl : (us ++ ds).length = ps.length := by rw [← r2.length]; exact F.len _ _ _ _ h
  refine wpAny_call (codeAny_mono (F.run X.A X.stack s H ⟨us, []⟩ (us ++ ds) (vs ++ dvs) Q E hr I.env0 (hb s us I.kIn hl) r2 h) fun r s' hq => ?_)
  cases r with
  | error e => exact hx pins σ H s e s' I hq
  | ok fl =>
    cases fl with
    | ret u => exact I.after hq
    | next => exact False.elim hq
    | brk => exact False.elim hq
    | cont => exact False.elim hq

theorem pe_call (F : FnOk X.prog X.w X.K X.mg X.base CX k f fd ps sp) (hr : Room k X.A) (hg : Gl X x) (hm : X.mg x = some (.ref f)) (hk : PySem.W.keepIn X.K (.ref f) = true) (hb : Binds X.K fd ps ds) (hd : Vals dvs ds) (hx : Passes CX X E)
    (ha : PA X (e :: es) t) (hdb : (x == ("__debug__" : Str)) = false := by decide) (he : starEach (e :: es) X.env = (false, eval e X.env) :: starEach es X.env := by rfl) (hpl : (backTo pos (starEach es X.env)).any (·.1) = false := by rfl) :
    PE X (.Call (.Name x p) (e :: es) [] pos) (tCall sp dvs E t) := by
  intro pins s σ H Q I h
  refine wpAny_Call_Name_kw (ld_glob I hg hm ?_ hdb)
  refine PySem.W.callWith_K (h₀ := X.base) I.ok.mod.kin hk (thn (ha pos pins s σ H _ I h) fun us s1 ⟨vs, H1, I1, r, q⟩ => ⟨I1.kIn, ?_⟩) he hpl
  exact run_fn F hr hb hd hx I1 r q
/-- o.m(e, ..) -/
theorem pe_meth {pl : Sem Bool} (he : PE X o ta) (c : Cls X.K C) (hm : Meth X.K C m f) (F : FnOk X.prog X.w X.K X.mg X.base CX k f fd ps sp) (hr : Room k X.A) (hb : Binds X.K fd ps ds) (hd : Vals dvs ds) (hx : Passes CX X E) (ha : PA X (e :: es) t)
    (hst : starEach (e :: es) X.env = (false, eval e X.env) :: starEach es X.env := by rfl) (hpl : (backTo pos (starEach es X.env)).any (·.1) = false := by rfl)
    (ht : eval (.Call (.Attribute o m apos) (e :: es) [] pos) X.env = (do
      let ov ← eval o X.env
      standAt apos.atName
      let (f, first) ← holding [ov] (getMethod ov m pl)
      callWith pos f first (backTo pos (starEach (e :: es) X.env)) (backToKw pos (keywordEach [] X.env))) := by rfl) :
    PE X (.Call (.Attribute o m apos) (e :: es) [] pos) (tMeth C m sp dvs E ta t) := by
  intro pins s σ H Q I h
  refine PySem.W.methodCall_KW (pl := pl) (thn (he pins s σ H _ I h) fun u s1 ⟨x, H1, I1, rx, a, dx, fs, ex, ea, l, q⟩ => ?_) ht
  subst ex
  obtain rfl : u = Value.ref a := rx
  refine getmeth_ok I1 ea c hm l ?_
  refine PySem.W.callWith_K (first := [.ref a]) (h₀ := X.base) I.ok.mod.kin hm.kp (thn (ha pos pins s1 σ H1 _ I1 q) fun us s2 ⟨vs, H2, I2, r, q2⟩ => ⟨I2.kIn, ?_⟩) hst hpl
  exact run_fn (us := .ref a :: us) (vs := .ref a :: vs) F hr hb hd hx I2 (.cons rfl r) q2
/-- o.m() -/
theorem pe_meth0 {pl : Sem Bool} (he : PE X o ta) (c : Cls X.K C) (hm : Meth X.K C m f) (F : FnOk X.prog X.w X.K X.mg X.base CX k f fd ps sp) (hr : Room k X.A) (hb : Binds X.K fd ps ds) (hd : Vals dvs ds) (hx : Passes CX X E)
    (ht : eval (.Call (.Attribute o m apos) [] [] pos) X.env = (do
      let ov ← eval o X.env
      standAt apos.atName
      let (f, first) ← holding [ov] (getMethod ov m pl)
      callWith pos f first (backTo pos (starEach [] X.env)) (backToKw pos (keywordEach [] X.env))) := by rfl) :
    PE X (.Call (.Attribute o m apos) [] [] pos) (tMeth C m sp dvs E ta tNil) := by
  intro pins s σ H Q I h
  refine PySem.W.methodCall_KW (pl := pl) (thn (he pins s σ H _ I h) fun u s1 ⟨x, H1, I1, rx, a, dx, fs, ex, ea, l, q⟩ => ?_) ht
  subst ex
  obtain rfl : u = Value.ref a := rx
  refine getmeth_ok I1 ea c hm l ?_
  exact PySem.W.callWith_K0 (first := [.ref a]) I1.kIn hm.kp (run_fn (us := [.ref a]) (vs := [.ref a]) F hr hb hd hx I1 (.cons rfl .nil) q)

/-- what a class must have to be made -/
structure Mk (K : PySem.W.Frag) (C f : Addr) : Prop where
  makes : PySem.W.makesIn K C = true
  init : PySem.W.findIn K (.ref C) "__init__" = some (some (.ref f))
  fn : PySem.W.isFn K (.ref f) = true
  kp : PySem.W.keepIn K (.ref C) = true

theorem run_make {pins : List (Addr × Obj)} {σ : St} {H : Hp} {s : Shared} {Q : VK} {us : List Value} {vs : List V} (M : Mk X.K C f) (F : FnOk X.prog X.w X.K X.mg X.base CX k f fd ps sp) (hr : Room (k + 1) X.A) (hb : Binds X.K fd ps ds) (hd : Vals dvs ds)
    (hx : Passes CX X E) (I : Inv X pins σ H s) (r : Vals vs us)
    (h : ∀ x dx, H x = none → H dx = none → dx ≠ x → sp (.ref x :: (vs ++ dvs)) (upd (upd H dx (.own x)) x (.ins C dx [])) (fun v H2 => v = .non ∧ Q (.ref x) H2) E) :
    wpAny (model X.prog X.w) X.A (call (.ref C) us) (EP X pins σ Q) X.xe s := by
  have hq := h (s.heap.objs.size + 1) s.heap.objs.size (I.hok.fresh (Nat.le_succ _)) (I.hok.fresh (Nat.le_refl _)) (Nat.ne_of_lt (Nat.lt_succ_self _))
  have I2 := Inv.made (C := C) I
  have r2 : Vals (V.ref (s.heap.objs.size + 1) :: (vs ++ dvs)) (Value.ref (s.heap.objs.size + 1) :: (us ++ ds)) := .cons rfl (r.append hd)
  have hl : (Value.ref (s.heap.objs.size + 1) :: us ++ ds).length = ps.length := by
    have e := r2.length
    rw [F.len _ _ _ _ hq] at e
    exact e.symm
  refine wpAny_call (make_map (f := f) I.kIn M.makes M.init (beq_iff_eq.mp M.fn) (codeAny_mono (F.run _ X.stack _ _ ⟨Value.ref (s.heap.objs.size + 1) :: us, []⟩ (Value.ref (s.heap.objs.size + 1) :: (us ++ ds)) _ _ E (hr.make C us [])
    (I2.env0.make C us []) (hb _ (Value.ref (s.heap.objs.size + 1) :: us) I2.kIn hl) r2 hq) fun r s' hq' => ?_))
  cases r with
  | error e => exact hx pins σ _ _ e s' I2 hq'
  | ok fl =>
    cases fl with
    | ret u =>
      obtain ⟨v, H', I3, rv, ev, q3⟩ := I2.after hq'
      subst ev
      exact ⟨rv, ⟨V.ref (s.heap.objs.size + 1), H', I3, rfl, q3⟩⟩
    | next => exact False.elim hq'
    | brk => exact False.elim hq'
    | cont => exact False.elim hq'
theorem pe_make (M : Mk X.K C f) (F : FnOk X.prog X.w X.K X.mg X.base CX k f fd ps sp) (hr : Room (k + 1) X.A) (hg : Gl X x) (hm : X.mg x = some (.ref C)) (hb : Binds X.K fd ps ds) (hd : Vals dvs ds) (hx : Passes CX X E)
    (ha : PA X (e :: es) t) (hdb : (x == ("__debug__" : Str)) = false := by decide) (he : starEach (e :: es) X.env = (false, eval e X.env) :: starEach es X.env := by rfl) (hpl : (backTo pos (starEach es X.env)).any (·.1) = false := by rfl) :
    PE X (.Call (.Name x p) (e :: es) [] pos) (tMake C sp dvs E t) := by
  intro pins s σ H Q I h
  refine wpAny_Call_Name_kw (ld_glob I hg hm ?_ hdb)
  refine PySem.W.callWith_K (h₀ := X.base) I.ok.mod.kin M.kp (thn (ha pos pins s σ H _ I h) fun us s1 ⟨vs, H1, I1, r, q⟩ => ⟨I1.kIn, ?_⟩) he hpl
  exact run_make M F hr hb hd hx I1 r q
end

/-! ### keywords -/
/-- the values of the keywords, from the left -/
def PK (X : Cx) (kws : List Keyword) (t : TA) : Prop :=
  ∀ (pos : Pos) (pins : List (Addr × Obj)) (s : Shared) (σ : St) (H : Hp) (Q : List V → Hp → Prop), Inv X pins σ H s → t σ H Q → wpAny (model X.prog X.w) X.A (evalAll ((backToKw pos (keywordEach kws X.env)).map (·.2))) (AP X pins σ Q) X.xe s
section
variable {X : Cx} {CX : CXT} {k : Nat} {f C : Addr} {fd : FuncData} {ps ks : List Str} {sp : Sp} {E : XK} {x m : Str} {p pos apos kpos : Pos} {e o : Expr} {es : List Expr} {kws : List Keyword} {te ta : TE} {t tk : TA} {nm : Option Str}
/-- how a call with keywords binds: g puts the positional values us and the keywords' values ws (names ks) in the parameters' order, defaults among them -/
structure KBinds (K : PySem.W.Frag) (fd : FuncData) (ps ks : List Str) (g : List Value → List Value → List Value) (gV : List V → List V → List V) : Prop where
  to : ∀ (s : Shared) (us ws : List Value), K.In s.heap → (g us ws).length = ps.length → BindsTo s fd ⟨us, ks.zip ws⟩ (ps.zip (g us ws))
  rel : ∀ {vs : List V} {us : List Value} {zs : List V} {ws : List Value}, Vals vs us → Vals zs ws → Vals (gV vs zs) (g us ws)
def tCallK (sp : Sp) (gV : List V → List V → List V) (E : XK) (t tk : TA) : TE := fun σ H Q => t σ H fun vs H1 => tk σ H1 fun zs H2 => sp (gV vs zs) H2 Q E
variable {g : List Value → List Value → List Value} {gV : List V → List V → List V}
end

/-! ### a def's body keeps its promise -/
/-- names: the parameters first -/
structure FnScope (N P : List Str) (sc : Scope) : Prop where
  kind : sc.kind = .function
  co : sc.isCoroutine = false
  gen : sc.isGenerator = false
  nd : N.Nodup
  pre : N.take P.length = P
  par : ∀ x ∈ P, sc.names.lookup x = some .local ∨ sc.names.lookup x = some .cell
  nofree : ∀ y ∈ sc.names, y.2 ≠ .free

theorem bindL_out {kindOf : Str → Option NameKind} {x : Str} : ∀ {binds : List (Str × Value)} {m : Str → Option Value}, (∀ v, (x, v) ∉ binds) → bindL kindOf binds m x = m x
  | [], _, _ => rfl
  | (n, v) :: r, m, h => by
    unfold bindL
    rw [bindL_out fun w hw => h w (List.mem_cons_of_mem _ hw)]
    split
    · have : x ≠ n := by rintro rfl; exact h v List.mem_cons_self
      simp [this]
    · rfl
theorem bindC_out {kindOf : Str → Option NameKind} {x : Str} : ∀ {binds : List (Str × Value)} {m : Str → Option Value}, (∀ v, (x, v) ∉ binds) → bindC kindOf binds m x = m x
  | [], _, _ => rfl
  | (n, v) :: r, m, h => by
    unfold bindC
    rw [bindC_out fun w hw => h w (List.mem_cons_of_mem _ hw)]
    split
    · rfl
    · have : x ≠ n := by rintro rfl; exact h v List.mem_cons_self
      simp [this]
theorem bindL_get {kindOf : Str → Option NameKind} {x : Str} {v : Value} : ∀ {P : List Str} {vs : List Value} {i : Nat} {m : Str → Option Value}, P.Nodup → P[i]? = some x → vs[i]? = some v → kindOf x = some .local →
    bindL kindOf (P.zip vs) m x = some v
  | [], _, _, _, _, h, _, _ => by simp at h
  | _ :: _, [], _, _, _, _, h, _ => by simp at h
  | p :: P, w :: vs, 0, m, nd, h1, h2, hk => by
    simp at h1 h2; subst h1; subst h2
    show bindL kindOf ((p, w) :: P.zip vs) m p = _
    unfold bindL
    rw [bindL_out fun v hv => (List.nodup_cons.mp nd).1 (List.of_mem_zip hv).1, if_pos hk]
    simp
  | p :: P, w :: vs, i + 1, m, nd, h1, h2, hk => by
    show bindL kindOf ((p, w) :: P.zip vs) m x = _
    unfold bindL
    exact bindL_get (i := i) (List.nodup_cons.mp nd).2 (by simpa using h1) (by simpa using h2) hk
theorem bindC_get {kindOf : Str → Option NameKind} {x : Str} {v : Value} : ∀ {P : List Str} {vs : List Value} {i : Nat} {m : Str → Option Value}, P.Nodup → P[i]? = some x → vs[i]? = some v → kindOf x ≠ some .local →
    bindC kindOf (P.zip vs) m x = some v
  | [], _, _, _, _, h, _, _ => by simp at h
  | _ :: _, [], _, _, _, _, h, _ => by simp at h
  | p :: P, w :: vs, 0, m, nd, h1, h2, hk => by
    simp at h1 h2; subst h1; subst h2
    show bindC kindOf ((p, w) :: P.zip vs) m p = _
    unfold bindC
    rw [bindC_out fun v hv => (List.nodup_cons.mp nd).1 (List.of_mem_zip hv).1, if_neg hk]
    simp
  | p :: P, w :: vs, i + 1, m, nd, h1, h2, hk => by
    show bindC kindOf ((p, w) :: P.zip vs) m x = _
    unfold bindC
    exact bindC_get (i := i) (List.nodup_cons.mp nd).2 (by simpa using h1) (by simpa using h2) hk

/-- the names' values at the entry -/
def start (N : List Str) (vs : List V) : St := vs.map some ++ List.replicate (N.length - vs.length) none

/-- the context of a def's body, at its entry; an exception leaves the frame, then lies as CX says -/
def cxOf (CX : CXT) (P : Program) (w : World) (K : PySem.W.Frag) (mg : Str → Option Value) (base : Heap) (N : List Str) (qual : Str) (scope : Scope) (f : Addr) (cd : Value) (A : Around) (outer : List Env) (s : Shared) (H : Hp) (E : XK) : Cx where
  prog := P
  w := w
  K := K
  mg := mg
  base := base
  A := A.deeper (envOfC qual scope s.heap.objs.size f cd)
  N := N
  s₀ := s
  H₀ := H
  env := envOfC qual scope s.heap.objs.size f cd
  outer := outer
  stack := envOfC qual scope s.heap.objs.size f cd :: outer
  ex := []
  calm := true
  fn := fun _ => true
  pn := []
  xe := fun e s' => wpAny (model P w) (A.deeper (envOfC qual scope s.heap.objs.size f cd)) (leaving (envOfC qual scope s.heap.objs.size f cd) e) (fun _ s'' => CX outer H s E e s'') (fun e' s'' => CX outer H s E e' s'') s'

theorem cell_has {sc : Scope} {n : Nat} {x : Str} (h : sc.names.lookup x = some .cell) : ∃ c, (cellsFrom n sc.names []).lookup x = some c := by
  have q := PySem.W.cellsFrom_some sc.names n [] (.inl h)
  exact Option.isSome_iff_exists.mp q

theorem inv_start {CX : CXT} {P : Program} {w : World} {K : PySem.W.Frag} {mg : Str → Option Value} {base : Heap} {N ps : List Str} {qual : Str} {scope : Scope} {f : Addr} {cd : Value} {A : Around} {outer : List Env} {s s1 : Shared} {H : Hp} {E : XK} {us : List Value} {vs : List V}
    (S : FnScope N ps scope) (hd : A.handled = none) (e0 : Env0 P w K mg base A outer s H) (hl : vs.length = ps.length) (r : Vals vs us)
    (x : InCallC s s.heap.objs.size (bindL (envOfC qual scope s.heap.objs.size f cd).kindOf (ps.zip us) fun _ => none) (cellsFrom (s.heap.objs.size + 1) scope.names []) (bindC (envOfC qual scope s.heap.objs.size f cd).kindOf (ps.zip us) fun _ => none) s1) :
    Inv (cxOf CX P w K mg base N qual scope f cd A outer s H E) [] (start N vs) H s1 := by
  have hpl : ps.length ≤ N.length := by have := congrArg List.length S.pre; rw [List.length_take] at this; omega
  obtain ⟨h1, tk, rfl, hk⟩ := x.done
  have noA : ∀ b : Addr, b ∉ (cxOf CX P w K mg base N qual scope f cd A outer s H E).ex := fun b z => absurd (show b ∈ ([] : List Addr) from z) (by simp)
  refine ⟨⟨e0.mod, S.kind, rfl, rfl, Nat.le_refl _, fun y z c h1 h2 => ?_, fun y hy => ?_, fun y c _ h => ?_, fun _ => hd, Around.frames_deeper e0.frames, .inr ⟨rfl, rfl⟩, fun b z => absurd z (noA b), e0.bs, e0.bsz, fun b _ _ => noA b, fun b z => absurd z (noA b), e0.funs, e0.frf⟩,
    rfl, e0.bare, Un.kept hk, ⟨_, x.toInCall.ns, fun i y v h1 h2 h3 => ?_⟩, fun y c h => ⟨_, x.cell y c h⟩, e0.hok.fresh (Nat.le_refl _), fun y c h => ?_, fun p hp => absurd (show p ∈ ([] : List (Addr × Obj)) from hp) (by simp), e0.hok.kept hk, ?_⟩
  · exact name_of_addr x.apart (PySem.mem_of_lookup h1) (PySem.mem_of_lookup h2)
  · have hy : scope.names.lookup y = some .cell ∨ scope.names.lookup y = some .free := hy
    rcases hy with hy | hy
    · exact cell_has hy
    · exact absurd rfl (S.nofree _ (PySem.mem_of_lookup hy))
  · exact Nat.le_of_lt (x.above y c (PySem.mem_of_lookup h))
  · have hi : i < vs.length := by
      unfold start at h2
      by_cases hi : i < vs.length
      · exact hi
      · rw [List.getElem?_append_right (by simpa using hi)] at h2
        rw [List.getElem?_replicate] at h2
        split at h2 <;> cases h2
    have ha : vs[i]? = some v := by
      unfold start at h2
      rw [List.getElem?_append_left (by simpa using hi), List.getElem?_map] at h2
      cases e : vs[i]? with
      | none => rw [e] at h2; cases h2
      | some a => rw [e] at h2; cases h2; rfl
    obtain ⟨u, hu, rv⟩ := r.get ha
    have hp : ps[i]? = some y := by
      rw [← S.pre, List.getElem?_take_of_lt (by omega)]; exact h1
    have ndP : ps.Nodup := by rw [← S.pre]; exact S.nd.sublist (List.take_sublist _ _)
    refine ⟨u, rv, ?_⟩
    rcases S.par y (List.mem_of_getElem? hp) with k | k
    · exact .inl ⟨k, bindL_get ndP hp hu k⟩
    · obtain ⟨c, e⟩ := cell_has (n := s.heap.objs.size + 1) k
      refine .inr ⟨.inl k, c, e, ?_⟩
      have q := x.cell y c e
      rw [bindC_get ndP hp hu (by show scope.names.lookup y ≠ _; rw [k]; decide)] at q
      exact q
  · exact e0.hok.fresh (Nat.le_of_lt (x.above y c (PySem.mem_of_lookup h)))
  · unfold start
    show _ = N.length
    rw [List.length_append, List.length_map, List.length_replicate]
    omega

/-- THE RULE: a def (or a method) of the text, by its body. The body's reading t is chosen for each entry; it is run at the parameters' values -/
theorem fn_of {CX : CXT} {P : Program} {w : World} {K : PySem.W.Frag} {mg : Str → Option Value} {base : Heap} {k : Nat} {f : Addr} {name qual : Str} {params : Arguments} {body : List Stmt} {scope : Scope} {dV kV doc pm cdv ct oc : Value} {an od : Option Addr}
    {osl : Array (Option Value)} {N ps : List Str} {sp : Sp} (lk : K.lookup f = some ⟨oc, od, .func (PySem.W.fnOf name qual params body scope dV kV doc pm an cdv ct), osl⟩) (hcd : PySem.W.codeIn K cdv qual = true) (S : FnScope N ps scope)
    (len : ∀ vs H Q E, sp vs H Q E → vs.length = ps.length)
    (hbody : ∀ (A : Around) (outer : List Env) (s : Shared) (H : Hp) (vs : List V) (Q : VK) (E : XK), Room k (A.deeper (envOfC qual scope s.heap.objs.size f cdv)) → sp vs H Q E →
      ∃ t, PSs (cxOf CX P w K mg base N qual scope f cdv A outer s H E) body t ∧ t { nx := fun _ H' => Q .non H', rt := Q } (start N vs) H) :
    FnOk P w K mg base CX (k + 1) f (PySem.W.fnOf name qual params body scope dV kV doc pm an cdv ct) ps sp := by
  refine ⟨len, fun A outer s H args us vs Q E hr e0 hb r hsp => ?_⟩
  have hl := len _ _ _ _ hsp
  have KX : K.In s.heap := e0.mod.kin.keeps fun b o e => (e0.bs b o e).1
  have lim : s.heap.NoLimit := e0.mod.nolimit.keeps fun b o e => (e0.bs b o e).1
  have hkind : ∀ y ∈ ps.zip us, scope.names.lookup y.1 = some .local ∨ (scope.names.lookup y.1 = some .cell ∧ ((cellsFrom (s.heap.objs.size + 1) scope.names []).lookup y.1).isSome = true) := fun ⟨n, v⟩ hy => by
    rcases S.par n (List.of_mem_zip hy).1 with q | q
    · exact .inl q
    · exact .inr ⟨q, PySem.W.cellsFrom_some _ _ _ (.inl q)⟩
  refine codeAny_call_function hr.depth (KX _ _ lk) rfl S.co S.gen rfl (PySem.W.codeRec_of KX hcd) (hb _ _ _ _ ?_)
  refine wpAny_newFunctionEnv_cells S.kind hkind fun env he s1 x => ?_
  subst he
  refine ⟨lim.keeps x.toInCall.keep, codeAny_func ?_⟩
  obtain ⟨t, ht, hq⟩ := hbody A outer s H vs Q E (hr.deeper _) hsp
  have I : Inv (cxOf CX P w K mg base N qual scope f cdv A outer s H E) [] (start N vs) H s1 := inv_start S hr.hd e0 hl r x
  refine wpAny_mono (ht [] s1 (start N vs) H _ I hq) (fun fl s' hs => ?_) fun e s' hs => hs
  have fin : ∀ {σ' : St} {H' : Hp} {v : V} {u : Value}, Inv (cxOf CX P w K mg base N qual scope f cdv A outer s H E) [] σ' H' s' → RelV v u → Q v H' → CE outer P w H s Q u s' :=
    fun {σ' H' v u} J rv q => ⟨v, H', J.os, J.bare, J.base, J.hok, rv, q⟩
  cases fl with
  | ret u =>
    obtain ⟨v, σ', H', J, rv, q⟩ := hs
    exact fin J rv q
  | next =>
    obtain ⟨σ', H', J, q⟩ := hs
    exact fin (v := V.non) (u := Value.none) J rfl q
  | brk =>
    obtain ⟨_, _, _, q⟩ := hs
    exact False.elim q
  | cont =>
    obtain ⟨_, _, _, q⟩ := hs
    exact False.elim q
end L2

namespace L2
open PySem PySem.Spec PyProof.Rows
section
variable {X : Cx} {x : Str} {p pos : Pos} {e : Expr} {es : List Expr} {t : TA} {id T : String} {r : List V → Hp → VK → Prop}

def tCB (r : List V → Hp → VK → Prop) (t : TA) : TE := fun σ H Q => t σ H fun vs H1 => r vs H1 Q
/-- f(e, ..), f a built-in function -/
theorem pe_callB (hc : CallR X (.builtin id) r) (hg : Gl X x) (hm : X.mg x = none) (hv : bootBuiltins x = some (.builtin id)) (ha : PA X (e :: es) t) (hn : x ≠ "__name__" := by decide) (hdb : (x == ("__debug__" : Str)) = false := by decide)
    (he : starEach (e :: es) X.env = (false, eval e X.env) :: starEach es X.env := by rfl) (hpl : (backTo pos (starEach es X.env)).any (·.1) = false := by rfl) : PE X (.Call (.Name x p) (e :: es) [] pos) (tCB r t) := by
  intro pins s σ H Q I h
  refine wpAny_Call_Name_kw (ld_blt I hg hm hv ?_ hn hdb)
  exact PyProof.Rows.callWith_builtin1 (thn (ha pos pins s σ H _ I h) fun us s1 ⟨vs, H1, I1, r1, q1⟩ => hc pins s1 σ H1 vs us Q I1 r1 q1) he hpl
/-- T(e, ..), T a built-in type -/
theorem pe_callTy (hc : CallR X (.type T) r) (hg : Gl X x) (hm : X.mg x = none) (hv : bootBuiltins x = some (.type T)) (ha : PA X (e :: es) t) (hn : x ≠ "__name__" := by decide) (hdb : (x == ("__debug__" : Str)) = false := by decide)
    (he : starEach (e :: es) X.env = (false, eval e X.env) :: starEach es X.env := by rfl) (hpl : (backTo pos (starEach es X.env)).any (·.1) = false := by rfl) : PE X (.Call (.Name x p) (e :: es) [] pos) (tCB r t) := by
  intro pins s σ H Q I h
  refine wpAny_Call_Name_kw (ld_blt I hg hm hv ?_ hn hdb)
  exact PyProof.Rows.callWith_type1 (thn (ha pos pins s σ H _ I h) fun us s1 ⟨vs, H1, I1, r1, q1⟩ => hc pins s1 σ H1 vs us Q I1 r1 q1) he hpl
end
end L2

namespace HT
open PySem PyProof.Rows

/-- t < u of tuples of ints -/
def lexLt : List Int → List Int → Bool
  | [], [] => false
  | [], _ :: _ => true
  | _ :: _, [] => false
  | x :: xs, y :: ys => if x = y then lexLt xs ys else decide (x < y)
theorem lexLt_cons (x y : Int) (xs ys : List Int) : lexLt (x :: xs) (y :: ys) = if x = y then lexLt xs ys else decide (x < y) := rfl
theorem lexLt_nil_nil : lexLt [] [] = false := rfl
theorem lexLt_nil_cons (y : Int) (ys : List Int) : lexLt [] (y :: ys) = true := rfl
theorem lexLt_cons_nil (x : Int) (xs : List Int) : lexLt (x :: xs) [] = false := rfl

theorem eqAt_int (A : Around) (s : Shared) (a : Int) (t : Tok) (c : Int) (u : Tok) : ∃ e, SeqAt.EqAt A s (.int a t) (.int c u) e ∧ (e = true ↔ a = c) :=
  ⟨(a == c), SeqAt.EqAt.int_int a t c u, by simp⟩
theorem rcLt_int (A : Around) (s : Shared) (a : Int) (t : Tok) (c : Int) (u : Tok) (prog : Program) (w : World) (E : Value → Shared → Prop) (Q : Value → Shared → Prop) (h : Q (.bool (decide (a < c))) s) :
    wpAny (model prog w) A (richCompare .Lt (.int a t) (.int c u)) Q E s :=
  (PyProof.Rows.lt_int h : wpAny (model prog w) A (compareOp .Lt (.int a t) (.int c u)) Q E s)

section
open PySem.SeqAt
open PySem.AutoSeq1 (wpAny_loadPart')
open PySem.MeetsSeq PySem.MeetsSeq2 PySem.MeetsSeq3

end

section
variable {prog : Program} {w : World} {A : Around} {E : Value → Shared → Prop} {s : Shared}

/-! ### t[a:b], not the whole -/
/-- a slice's bound as a place among n (d where it is left out) -/
def sIx (n d : Nat) : Option Int → Nat
  | none => d
  | some v => if v < 0 then (v + (n : Int)).toNat else min v.toNat n
theorem sIx_none (n d : Nat) : sIx n d none = d := rfl
theorem sIx_nat (n d k : Nat) : sIx n d (some (k : Int)) = min k n := by
  show (if (k : Int) < 0 then ((k : Int) + (n : Int)).toNat else min (k : Int).toNat n) = min k n
  rw [if_neg (by omega), Int.toNat_natCast]
end
end HT

namespace L2
open PySem PySem.Spec PyProof.Rows

/-! ### the parts of a slice -/
abbrev TO := St → Hp → (Option Int → Hp → Prop) → Prop
/-- a slice's part (left out, or an int) -/
def PO (X : Cx) (e : Option Expr) (t : TO) : Prop :=
  ∀ (pins : List (Addr × Obj)) (s : Shared) (σ : St) (H : Hp) (Q : Option Int → Hp → Prop), Inv X pins σ H s → t σ H Q →
    wpAny (model X.prog X.w) X.A (evalPart e X.env) (fun u s' => ∃ o H', Inv X pins σ H' s' ∧ IsPart u o ∧ Q o H') X.xe s
def tNoPart : TO := fun _ H Q => Q none H
def tPart (t : TE) : TO := fun σ H Q => t σ H fun x H1 => ∃ i, x = .int i ∧ Q (some i) H1

theorem intsAre_of {ns : List Int} : ∀ {us : List Value}, Vals (ns.map V.int) us → IntsAre us ns := by
  induction ns with
  | nil => intro us r; rw [List.map_nil] at r; cases r; exact .nil
  | cons n ns ih =>
    intro us r
    rw [List.map_cons] at r
    cases r with
    | cons r1 r2 =>
      obtain ⟨t, e⟩ := r1
      subst e
      exact .cons n t (ih r2)

section
variable {X : Cx} {e : Expr} {te : TE} {lo hi : Option Expr} {tl th : TO} {pos p2 : Pos}

theorem po_none : PO X none tNoPart := by
  intro pins s σ H Q I h
  rw [evalPart_none]
  exact wpAny_pure ⟨none, H, I, .none, h⟩
theorem po_some (h : PE X e te) : PO X (some e) (tPart te) := by
  intro pins s σ H Q I hw
  rw [evalPart_some]
  refine thn (h pins s σ H _ I hw) fun u s1 ⟨x, H1, I1, r1, q1⟩ => ?_
  obtain ⟨i, rfl, q⟩ := q1
  obtain ⟨t, rfl⟩ := r1
  exact ⟨some i, H1, I1, .int i t, q⟩

/-- what a slice of a value is, by values: the slice object stands at sl -/
def SlR (X : Cx) (r : V → Option Int → Option Int → Hp → VK → Prop) : Prop :=
  ∀ (pins : List (Addr × Obj)) (s : Shared) (σ : St) (H : Hp) (x : V) (v vl vu : Value) (lo hi : Option Int) (sl : Addr) (Q : VK), Inv X pins σ H s → RelV x v → s.heap.IsSliceOf sl vl vu .none → IsPart vl lo → IsPart vu hi → r x lo hi H Q →
    ∃ T id, typeLookup (.type T) "__getitem__" = pure (some (.builtin id)) ∧ s.TypeIs v T ∧ wpAny (model X.prog X.w) X.A (getItem v (.ref sl)) (EP X pins σ Q) X.xe s
def tSl (r : V → Option Int → Option Int → Hp → VK → Prop) (te : TE) (tl th : TO) : TE := fun σ H Q => te σ H fun x H1 => tl σ H1 fun l H2 => th σ H2 fun u H3 => r x l u H3 Q
/-- a[lo:hi], any a -/
theorem pe_slice {r : V → Option Int → Option Int → Hp → VK → Prop} (hr : SlR X r) (he : PE X e te) (hl : PO X lo tl) (hu : PO X hi th) : PE X (.Subscript e (.Slice lo hi none p2) pos) (tSl r te tl th) := by
  intro pins s σ H Q I h
  refine Subscript_ (thn (he pins s σ H _ I h) fun v s1 ⟨x, H1, I1, r1, q1⟩ => ?_)
  refine wpAny_Slice (thn (hl pins s1 σ H1 _ I1 q1) fun vl s2 ⟨l, H2, I2, pl, q2⟩ => thn (hu pins s2 σ H2 _ I2 q2) fun vu s3 ⟨u, H3, I3, pu, q3⟩ => ?_)
  rw [evalPart_none]
  refine wpAny_pure ?_
  have I4 : Inv X pins σ H3 { s3 with heap := s3.heap.push { cls := .type "slice", data := .fields #[vl, vu, .none] } } := I3.kept (t' := s3.toks) fun b ob q => Heap.get?_push_of_some _ q
  obtain ⟨T, id, hT, ht, hg⟩ := hr pins { s3 with heap := s3.heap.push { cls := .type "slice", data := .fields #[vl, vu, .none] } } σ H3 x v vl vu l u s3.heap.objs.size Q I4 r1 (Heap.IsSliceOf.new ..) pl pu q3
  show wpAny (model X.prog X.w) X.A (subscriptTail e (.Slice lo hi none p2) v (.ref s3.heap.objs.size)) (EP X pins σ Q) X.xe { s3 with heap := s3.heap.push { cls := .type "slice", data := .fields #[vl, vu, .none] } }
  exact tail_any (ops := [.ref s3.heap.objs.size, v]) ht hT hg (by with_unfolding_all rfl)

/-- the items of xs[lo:hi] -/
def cutV (xs : List V) (lo hi : Option Int) : List V := (xs.drop (HT.sIx xs.length 0 lo)).take (HT.sIx xs.length xs.length hi - HT.sIx xs.length 0 lo)
theorem cutV_length (xs : List V) (lo hi : Option Int) : (cutV xs lo hi).length ≤ xs.length := by
  unfold cutV
  rw [List.length_take, List.length_drop]
  omega
/-- t[lo:hi], not the whole of it (the whole would be t itself) -/
def rSlT (K : PySem.W.Frag) : V → Option Int → Option Int → Hp → VK → Prop := fun x lo hi H Q => ∃ a xs, x = .ref a ∧ SqT K H a xs ∧
  ¬ (HT.sIx xs.length 0 lo = 0 ∧ HT.sIx xs.length xs.length hi = xs.length) ∧ ∀ p, H p = none → Q (.ref p) (upd H p (.tup (cutV xs lo hi)))
/-! ### t < u, t + u -/
def rLtT (K : PySem.W.Frag) : R2 := fun x y H Q => ∃ a b ns ms, x = .ref a ∧ y = .ref b ∧ SqT K H a (ns.map V.int) ∧ SqT K H b (ms.map V.int) ∧ Q (.bl (HT.lexLt ns ms)) H
/-- t + u, t not empty: u empty gives t itself -/
def rCatT (K : PySem.W.Frag) : R2 := fun x y H Q => ∃ a b xs ys, x = .ref a ∧ y = .ref b ∧ SqT K H a xs ∧ SqT K H b ys ∧ xs ≠ [] ∧ xs.length + ys.length ≤ sizeLine ∧
  (ys = [] → Q (.ref a) H) ∧ (ys ≠ [] → ∀ p, H p = none → Q (.ref p) (upd H p (.tup (xs ++ ys))))
end
end L2

namespace L2
open PySem PySem.Spec PyProof.Rows

/-! ### places -/
/-- the place that an index of any sign means -/
def ixN (n : Nat) (i : Int) : Option Nat := if 0 ≤ i then (if i < n then some i.toNat else none) else if -(n : Int) ≤ i then some (i + n).toNat else none
def atI {α : Type} (xs : List α) (i : Int) : Option α := (ixN xs.length i).bind fun j => xs[j]?
theorem ixN_seq {n : Nat} {i : Int} {j : Nat} (h : ixN n i = some j) : seqIndex? i n = some j ∧ j < n ∧ -(n : Int) ≤ i ∧ i < n := by
  unfold ixN at h
  by_cases h0 : 0 ≤ i
  · rw [if_pos h0] at h
    by_cases h1 : i < n
    · rw [if_pos h1] at h
      have e : i.toNat = j := Option.some.inj h
      exact ⟨by rw [seqIndex_of h0 h1, e], by omega, by omega, h1⟩
    · rw [if_neg h1] at h; cases h
  · rw [if_neg h0] at h
    by_cases h1 : -(n : Int) ≤ i
    · rw [if_pos h1] at h
      have e : (i + n).toNat = j := Option.some.inj h
      exact ⟨by rw [seqIndex_neg (by omega) h1, e], by omega, h1, by omega⟩
    · rw [if_neg h1] at h; cases h
theorem atI_get {α : Type} {xs : List α} {i : Int} {v : α} (h : atI xs i = some v) : ∃ j, seqIndex? i xs.length = some j ∧ xs[j]? = some v ∧ j < xs.length ∧ -(xs.length : Int) ≤ i ∧ i < xs.length := by
  unfold atI at h
  cases e : ixN xs.length i with
  | none => rw [e] at h; cases h
  | some j =>
    rw [e] at h
    obtain ⟨h1, h2, h3, h4⟩ := ixN_seq e
    exact ⟨j, h1, h, h2, h3, h4⟩
theorem atI_nat {α : Type} {xs : List α} {j : Nat} {v : α} (h : xs[j]? = some v) : atI xs (j : Int) = some v := by
  have hj : j < xs.length := (List.getElem?_eq_some_iff.mp h).1
  have e : ixN xs.length (j : Int) = some j := by
    unfold ixN
    rw [if_pos (by omega), if_pos (by omega)]; simp
  unfold atI; rw [e]; exact h
theorem atI_last {α : Type} (xs : List α) (v : α) : atI (xs ++ [v]) (-1) = some v := by
  have hl : (xs ++ [v]).length = xs.length + 1 := by simp
  have e : ixN (xs ++ [v]).length (-1) = some xs.length := by
    unfold ixN
    rw [hl, if_neg (by decide), if_pos (by omega)]
    congr 1
    omega
  unfold atI
  rw [e]
  show (xs ++ [v])[xs.length]? = some v
  simp

/-! ### what may be subscripted -/
/-- what stands as an index of a plain subscript -/
def PlainIx (b : Expr) : Prop := ∀ o i, subscripted b false o i = operate [o, i] (getItem o i)
/-- a subscript by values -/
def IxR (X : Cx) (r : R2) : Prop :=
  ∀ (value slice : Expr) (pins : List (Addr × Obj)) (s : Shared) (σ : St) (H : Hp) (x y : V) (v u : Value) (Q : VK), Inv X pins σ H s → RelV x v → RelV y u → r x y H Q →
    subscripted slice false v u = operate [v, u] (getItem v u) → wpAny (model X.prog X.w) X.A (subscriptTail value slice v u) (EP X pins σ Q) X.xe s
/-- a call of a builtin's method by values: the receiver, the arguments -/
def MtR (X : Cx) (id : String) (r : V → List V → Hp → VK → Prop) : Prop :=
  ∀ (pins : List (Addr × Obj)) (s : Shared) (σ : St) (H : Hp) (x : V) (xs : List V) (v : Value) (us : List Value) (Q : VK), Inv X pins σ H s → RelV x v → Vals xs us → r x xs H Q →
    wpAny (model X.prog X.w) X.A (call (.builtin id) (v :: us)) (EP X pins σ Q) X.xe s
section
variable {X : Cx} {a b : Expr} {ta tb : TE} {pos : Pos}
theorem IxR.or {r r' : R2} (h : IxR X r) (h' : IxR X r') : IxR X (fun x y H Q => r x y H Q ∨ r' x y H Q) := by
  intro value slice pins s σ H x y v u Q I rx ry q hs
  rcases q with q | q
  · exact h value slice pins s σ H x y v u Q I rx ry q hs
  · exact h' value slice pins s σ H x y v u Q I rx ry q hs
/-- a[b] -/
theorem pe_ix {r : R2} (hr : IxR X r) (ha : PE X a ta) (hb : PE X b tb) (hs : PlainIx b) : PE X (.Subscript a b pos) (tOp r ta tb) := by
  intro pins s σ H Q I h
  exact Subscript_ (binT ha hb I h fun v u s2 x y H2 I2 rx ry q => hr a b pins s2 σ H2 x y v u Q I2 rx ry q (hs _ _))

def rIxL (K : PySem.W.Frag) : R2 := fun x y H Q => ∃ p xs i v, x = .ref p ∧ y = .int i ∧ SqL K H p xs ∧ atI xs i = some v ∧ Q v H
def rIxT (K : PySem.W.Frag) : R2 := fun x y H Q => ∃ p xs i v, x = .ref p ∧ y = .int i ∧ SqT K H p xs ∧ atI xs i = some v ∧ Q v H
def rIxS : R2 := fun x y H Q => ∃ z i c, x = .str z ∧ y = .int i ∧ z.length ≤ sizeLine ∧ atI z.cps.toList i = some c ∧ Q (.str ⟨#[c]⟩) H
theorem ix_list : IxR X (rIxL X.K) := by
  intro value slice pins s σ H x y v u Q I rx ry h hs
  obtain ⟨p, xs, i, z, rfl, rfl, hq, he, q⟩ := h
  cases rx
  obtain ⟨t, rfl⟩ := ry
  obtain ⟨its, r, pl, hz⟩ := I.list hq
  obtain ⟨j, h1, h2, h3, h4, h5⟩ := atI_get he
  obtain ⟨w, ew, rw'⟩ := r.get h2
  have hl := r.length
  have hn := line63
  have fin : EP X pins σ Q w s := ⟨z, H, I, rw', q⟩
  by_cases h0 : 0 ≤ i
  · have hj : i.toNat = j := by
      rw [seqIndex_of h0 h5] at h1
      exact Option.some.inj h1
    exact item_listR pl.isList h0 (by omega) (by rw [hj]; simpa using ew) fin hs
  · have hj : (i + (its.toArray.size : Int)).toNat = j := by
      rw [seqIndex_neg (by omega) h4] at h1
      rw [List.size_toArray, ← hl]
      exact Option.some.inj h1
    exact subscriptTail_builtinR (x := w) pl.isList.typeIs slot_list_getitem.lookup
      (wpAny_getItem_list_neg (Q := fun r s' => r = w ∧ EP X pins σ Q r s') pl.isList (by omega) (by rw [List.size_toArray] <;> omega) (by omega) (by rw [hj]; simpa using ew) ⟨rfl, fin⟩) hs
theorem ix_tup : IxR X (rIxT X.K) := by
  intro value slice pins s σ H x y v u Q I rx ry h hs
  obtain ⟨p, xs, i, z, rfl, rfl, hq, he, q⟩ := h
  cases rx
  obtain ⟨t, rfl⟩ := ry
  obtain ⟨its, r, pl, hz⟩ := I.tuple hq
  obtain ⟨j, h1, h2, h3, h4, h5⟩ := atI_get he
  obtain ⟨w, ew, rw'⟩ := r.get h2
  have hl := r.length
  have hn := line63
  have fin : EP X pins σ Q w s := ⟨z, H, I, rw', q⟩
  exact subscriptTail_builtinR (x := w) pl.typeIs slot_tuple_getitem.lookup
    (getItem_tuple (j := j) (Q := fun r s' => r = w ∧ EP X pins σ Q r s') pl (by omega) (by omega) (by rw [List.size_toArray, ← hl]; exact h1) (by simpa using ew) ⟨rfl, fin⟩) hs
/-- list, tuple or str -/
def rIx (K : PySem.W.Frag) : R2 := fun x y H Q => rIxL K x y H Q ∨ rIxT K x y H Q ∨ rIxS x y H Q
/-! ### xs[i] = v, any sign -/
def rSetL : V → V → V → Hp → (Hp → Prop) → Prop := fun o i v H Q => ∃ p xs k j, o = .ref p ∧ i = .int k ∧ H p = some (.lst xs) ∧ ixN xs.length k = some j ∧ Q (upd H p (.lst (xs.set j v)))
/-! ### slices -/
theorem slice_bounds (lo hi : Option Int) (n : Nat) : (sliceBounds lo hi none n).1 = ((HT.sIx n 0 lo : Nat) : Int) ∧ (sliceBounds lo hi none n).2.1 = ((HT.sIx n n hi : Nat) : Int) ∧ (sliceBounds lo hi none n).2.2 = 1 := by
  refine ⟨?_, ?_, rfl⟩
  · cases lo with
    | none => simp [sliceBounds, HT.sIx]
    | some i =>
      simp only [sliceBounds, HT.sIx, Option.getD_none, show (1 : Int) > 0 by decide, if_true]
      by_cases h : i < 0
      · simp only [h, if_true] <;> omega
      · simp only [h, if_false] <;> omega
  · cases hi with
    | none => simp [sliceBounds, HT.sIx]
    | some i =>
      simp only [sliceBounds, HT.sIx, Option.getD_none, show (1 : Int) > 0 by decide, if_true]
      by_cases h : i < 0
      · simp only [h, if_true] <;> omega
      · simp only [h, if_false] <;> omega
theorem slicePick_cut (its : List Value) (lo hi : Option Int) : slicePick its.toArray lo hi none = ((its.drop (HT.sIx its.length 0 lo)).take (HT.sIx its.length its.length hi - HT.sIx its.length 0 lo)).toArray := by
  obtain ⟨h1, h2, h3⟩ := slice_bounds lo hi its.toArray.size
  unfold slicePick
  rw [h1, h2, h3]
  simp only [sliceRange_one, pick_run, List.size_toArray] <;> rfl
/-- xs[lo:hi] of a list: a new list -/
def rSlL (K : PySem.W.Frag) : V → Option Int → Option Int → Hp → VK → Prop := fun x lo hi H Q => ∃ a xs, x = .ref a ∧ SqL K H a xs ∧ ∀ p, H p = none → Q (.ref p) (upd H p (.lst (cutV xs lo hi)))
theorem sl_list : SlR X (rSlL X.K) := by
  intro pins s σ H x v vl vu lo hi sl Q I rx hs pl pu h
  obtain ⟨a, xs, rfl, hx, q⟩ := h
  cases rx
  obtain ⟨its, r, ht, hz⟩ := I.list hx
  have hlen := r.length
  refine ⟨"list", _, slot_list_getitem.lookup, ht.isList.typeIs, ?_⟩
  refine wpAny_getItem_list_slice ht.isList hs pl pu .none (by simp) ?_ (by rw [List.size_toArray] <;> omega)
  rw [slicePick_cut, ← hlen]
  refine ⟨.ref s.heap.objs.size, _, I.laid (t' := s.toks) (o := .lst (cutV xs lo hi)) (fun b ob q => Heap.get?_push_of_some _ q) (Nat.le_refl _) ?_, rfl, q _ (I.hok.fresh (Nat.le_refl _))⟩
  exact ⟨Nat.le_trans (cutV_length xs lo hi) hz, _, 0, (r.drop (HT.sIx xs.length 0 lo)).take (HT.sIx xs.length xs.length hi - HT.sIx xs.length 0 lo), Heap.get?_push_size _ rfl⟩

/-! ### in, not in: flat items -/
def flatV : V → Bool
  | .non => true
  | .bl _ => true
  | .int _ => true
  | .str _ => true
  | _ => false
/-- == of flat values -/
def eqV : V → V → Bool
  | .non, .non => true
  | .bl a, .bl b => a == b
  | .bl a, .int b => (if a then 1 else 0) == b
  | .int a, .bl b => a == (if b then 1 else 0)
  | .int a, .int b => a == b
  | .str a, .str b => a == b
  | _, _ => false
/-- the items' answers, read off the values (a value's own answer does not lean on its token) -/
def eqU (x : V) (u : Value) : Bool := match u with
  | .none => eqV .non x
  | .bool b => eqV (.bl b) x
  | .int i _ => eqV (.int i) x
  | .str z _ => eqV (.str z) x
  | _ => false
def inV (x : V) (xs : List V) : Bool := xs.any fun y => eqV y x
/-- x in a list or tuple of flat items -/
def rIn (K : PySem.W.Frag) (neg : Bool) : R2 := fun x y H Q => ∃ p xs, y = .ref p ∧ (SqL K H p xs ∨ SqT K H p xs) ∧ flatV x = true ∧ xs.all flatV = true ∧ Q (.bl (if neg then !inV x xs else inV x xs)) H
/-! ### len, list(x), tuple(x) of any list or tuple that is read -/
theorem call_list_of : CallR X (.type "list") (fun xs H Q => ∃ p ys, xs = [.ref p] ∧ (SqL X.K H p ys ∨ SqT X.K H p ys) ∧ ∀ l, H l = none → Q (.ref l) (upd H l (.lst ys))) := by
  intro pins s σ H xs us Q I r h
  obtain ⟨p, ys, rfl, hq, q⟩ := h
  obtain ⟨u, rfl, rx⟩ := vals1 r
  cases rx
  have fin : ∀ (its : List Value), Vals ys its → ys.length ≤ sizeLine → ∀ (h' : Heap) (c' : Nat), (∀ b o', s.heap.get? b = some o' → h'.get? b = some o') →
      h'.get? s.heap.objs.size = some { cls := .type "list", dict := none, data := .seq its.toArray c', slots := #[] } → EP X pins σ Q (.ref s.heap.objs.size) { s with heap := h' } := fun its r' hz h' c' kp e =>
    ⟨.ref s.heap.objs.size, _, I.laid (t' := s.toks) kp (Nat.le_refl _) (show ObjOk X.prog X.w _ h' _ (.lst ys) from ⟨hz, its, c', r', e⟩), rfl, q _ (I.hok.fresh (Nat.le_refl _))⟩
  rcases hq with hq | hq
  · obtain ⟨its, r', pl, hz⟩ := I.list hq
    have hlen := r'.length
    obtain ⟨o, ho, hc, n, hd⟩ := pl.isList
    exact call_list_seq p (.inl rfl) ho hc hd (fun h' c' kp e => fin its r' hz h' c' kp e) (by simp only [List.size_toArray] <;> omega)
  · obtain ⟨its, r', pl, hz⟩ := I.tuple hq
    have hlen := r'.length
    obtain ⟨o, ho, hc, n, hd⟩ := pl
    exact call_list_seq p (.inr rfl) ho hc hd (fun h' c' kp e => fin its r' hz h' c' kp e) (by simp only [List.size_toArray] <;> omega)
/-! ### the call of a builtin's method: o.m(..) -/
/-- the value is of that builtin type -/
def tyV (K : PySem.W.Frag) (T : String) (x : V) (H : Hp) : Prop := match x with
  | .str _ => T = "str"
  | .int _ => T = "int"
  | .ref p => (T = "list" ∧ ∃ xs, SqL K H p xs) ∨ (T = "tuple" ∧ ∃ o, K.lookup p = some o ∧ o.cls = .type "tuple" ∧ o.dict = none) ∨
      (T = "dict" ∧ ((∃ kvs, H p = some (.dK kvs)) ∨ ∃ kvs, H p = some (.dT kvs))) ∨ (T = "set" ∧ ∃ S n, H p = some (.set S n))
  | _ => False
theorem tyV_is {pins : List (Addr × Obj)} {σ : St} {H : Hp} {s : Shared} {T : String} {x : V} {v : Value} (I : Inv X pins σ H s) (r : RelV x v) (ty : tyV X.K T x H) :
    s.TypeIs v T ∧ ∀ a, v = .ref a → ∃ ob, s.heap.get? a = some ob ∧ ob.dict = none := by
  cases x with
  | str z =>
    obtain ⟨t, rfl⟩ := r
    cases (show T = "str" from ty)
    exact ⟨typeIs_str s z t, fun _ e => nomatch e⟩
  | int i =>
    obtain ⟨t, rfl⟩ := r
    cases (show T = "int" from ty)
    exact ⟨typeIs_int s i t, fun _ e => nomatch e⟩
  | ref p =>
    cases r
    rcases ty with ⟨rfl, xs, hq⟩ | ⟨rfl, o, hk, hc, hd⟩ | ⟨rfl, hk⟩ | ⟨rfl, S, n, hk⟩
    · obtain ⟨its, _, pl, _⟩ := I.list hq
      refine ⟨pl.isList.typeIs, fun a e => ?_⟩
      cases e
      obtain ⟨o, n, e, c, hd, _⟩ := pl
      exact ⟨o, e, hd⟩
    · refine ⟨⟨o, I.kIn p o hk, hc⟩, fun a e => ?_⟩
      cases e
      exact ⟨o, I.kIn _ o hk, hd⟩
    · have z : ∃ o, s.heap.get? p = some o ∧ o.ExactDict := by
        rcases hk with ⟨kvs, hk⟩ | ⟨kvs, hk⟩
        · obtain ⟨_, _, _, _, o, _, _, e, ex, _⟩ := I.hok p _ hk
          exact ⟨o, e, ex⟩
        · obtain ⟨_, _, _, _, o, _, _, e, ex, _⟩ := I.hok p _ hk
          exact ⟨o, e, ex⟩
      obtain ⟨o, e, ex⟩ := z
      refine ⟨⟨o, e, ex.1⟩, fun a e2 => ?_⟩
      cases e2
      exact ⟨o, e, ex.2.1⟩
    · obtain ⟨o, _, _, _, e, ex, _⟩ := I.hok p _ hk
      refine ⟨⟨o, e, ex.1⟩, fun a e2 => ?_⟩
      cases e2
      exact ⟨o, e, ex.2.1⟩
  | _ => exact False.elim ty
def tBM0 (K : PySem.W.Frag) (T : String) (r : V → List V → Hp → VK → Prop) (to : TE) : TE := fun σ H Q => to σ H fun x H1 => tyV K T x H1 ∧ r x [] H1 Q
def tBM (K : PySem.W.Frag) (T : String) (r : V → List V → Hp → VK → Prop) (to : TE) (t : TA) : TE := fun σ H Q => to σ H fun x H1 => tyV K T x H1 ∧ t σ H1 fun xs H2 => r x xs H2 Q
variable {o e : Expr} {es : List Expr} {to : TE} {t : TA} {name : Str} {apos cpos : Pos} {T id : String} {r : V → List V → Hp → VK → Prop}
theorem pe_bm (pa : PlainAttrs T) (slot : Slot T name id) (hty : typeOf (.builtin id) = pure (.type "method_descriptor")) (hm : MtR X id r) (ho : PE X o to) (ha : PA X (e :: es) t)
    (hbase : attributeBase o name X.env (eval o X.env) = eval o X.env := by rfl)
    (hfew : ((backTo cpos (starEach (e :: es) X.env)).all (fun x => !x.1) && (backToKw cpos (keywordEach [] X.env)).all (fun x => x.1.isSome)
      && decide ((e :: es).length + ([] : List Keyword).length + (if ([] : List Keyword).isEmpty then 0 else 1) < 30)) = true := by rfl)
    (hline : (apos.endLine == cpos.line) = true := by rfl) (hs : starEach (e :: es) X.env = (false, eval e X.env) :: starEach es X.env := by rfl) (hplain : (backTo cpos (starEach es X.env)).any (·.1) = false := by rfl) :
    PE X (.Call (.Attribute o name apos) (e :: es) [] cpos) (tBM X.K T r to t) := by
  intro pins s σ H Q I h
  refine wpAny_Call_method_late hbase hfew hline rfl (thn (ho pins s σ H _ I h) fun v s1 ⟨x, H1, I1, r1, ty, q1⟩ => ?_)
  obtain ⟨h1, h2⟩ := tyV_is I1 r1 ty
  refine ⟨T, id, pa, slot, hty, h1, h2, ?_⟩
  have hA := ha cpos pins s1 σ H1 _ I1 q1
  rw [hs] at hA ⊢
  refine Calls.callWith_builtin (by show (false || (backTo cpos (starEach es X.env)).any (·.1)) = false; rw [hplain] <;> rfl) (Calls.evalArgs_plain ?_)
  exact thn hA fun us s2 ⟨vs, H2, I2, r2, q2⟩ => hm pins s2 σ H2 x vs v us Q I2 r1 r2 q2
/- xs.append(e), list.index on a module's tuple .. are MtR facts of 06m -/
end
end L2

namespace L2
open PySem PySem.Spec PyProof.Rows

def MtM (X : Cx) (id : String) (r : V → List V → Hp → VK → Prop) : Prop :=
  ∀ (pins : List (Addr × Obj)) (s : Shared) (σ : St) (H : Hp) (x : V) (xs : List V) (v : Value) (us : List Value) (Q : VK), Inv X pins σ H s → RelV x v → Vals xs us → r x xs H Q →
    wpAny (model X.prog X.w) X.A (call (.builtin id) (v :: us)) (EP X pins σ Q) X.xe s

/-! ### lists of values -/
theorem Vals.one : ∀ {x : V} {us : List Value}, Vals [x] us → ∃ u, us = [u] ∧ RelV x u
  | _, _, .cons r .nil => ⟨_, rfl, r⟩
theorem Vals.eraseIdx : ∀ {xs : List V} {us : List Value} (i : Nat), Vals xs us → Vals (xs.eraseIdx i) (us.eraseIdx i)
  | _, _, _, .nil => .nil
  | _, _, 0, .cons _ t => t
  | _, _, i + 1, .cons r t => .cons r (Vals.eraseIdx i t)
theorem Vals.rep {xs : List V} {us : List Value} (h : Vals xs us) : ∀ k : Nat, Vals (List.replicate k xs).flatten (List.replicate k us).flatten
  | 0 => .nil
  | k + 1 => by
    rw [List.replicate_succ, List.replicate_succ, List.flatten_cons, List.flatten_cons]
    exact Vals.append h (Vals.rep h k)
theorem len_erase {α : Type} : ∀ (l : List α) (i : Nat), (l.eraseIdx i).length ≤ l.length
  | [], _ => Nat.le_refl _
  | _ :: _, 0 => Nat.le_succ _
  | _ :: r, i + 1 => Nat.succ_le_succ (len_erase r i)
theorem foldl_rep (its : List Value) : ∀ (k : Nat) (acc : List Value),
    List.foldl (fun x1 x2 => x1 ++ x2) acc.toArray (List.replicate k its.toArray) = (acc ++ (List.replicate k its).flatten).toArray
  | 0, acc => by simp
  | k + 1, acc => by
    have e : acc.toArray ++ its.toArray = (acc ++ its).toArray := by simp
    have e2 : (acc ++ its) ++ (List.replicate k its).flatten = acc ++ (List.replicate (k + 1) its).flatten := by
      rw [List.replicate_succ, List.flatten_cons, List.append_assoc]
    rw [← e2, ← foldl_rep its k (acc ++ its), ← e, List.replicate_succ, List.foldl_cons]

section
variable {X : Cx} {pins : List (Addr × Obj)} {σ : St} {H : Hp} {s : Shared} {l b : Addr} {xs ys zs : List V}

/-! ### the two steps: a tracked list is rewritten, a new list is laid -/
theorem Inv.lset {its its' : List Value} {n : Nat} {f : Array Value → Array Value} {t' : Nat} (I : Inv X pins σ H s) (hH : H l = some (.lst xs))
    (e : s.heap.get? l = some { cls := .type "list", data := .seq its.toArray n }) (hf : f its.toArray = its'.toArray) (hv : Vals ys its') (hz : ys.length ≤ sizeLine) :
    Inv X pins σ (upd H l (.lst ys)) { s with heap := s.heap.update l (Obj.mapSeq f), toks := t' } := by
  have q := PySem.IsL.update e f
  rw [hf] at q
  refine I.write (x := l) (e := l) (by rw [hH]; exact trivial) (.inl rfl) (fun b' u hb hu => (Heap.get?_update_other s.heap (Obj.mapSeq f) (Ne.symm hb)).trans hu) ⟨_, q⟩ ?_
  exact ⟨hz, its', _, hv, q⟩
theorem Inv.lnew {its : List Value} {t' : Nat} (I : Inv X pins σ H s) (hv : Vals ys its) (hz : ys.length ≤ sizeLine) :
    Inv X pins σ (upd H s.heap.objs.size (.lst ys)) { s with heap := s.heap.push { cls := .type "list", data := .seq its.toArray }, toks := t' } :=
  I.laid (fun _ _ q => Heap.get?_push_of_some _ q) (Nat.le_refl _) ⟨hz, its, 0, hv, Heap.get?_push_size _ rfl⟩
theorem Inv.fresh (I : Inv X pins σ H s) : H s.heap.objs.size = none := I.hok.fresh (Nat.le_refl _)
theorem Inv.lstM (I : Inv X pins σ H s) (hH : H l = some (.lst xs)) : xs.length ≤ sizeLine ∧ ∃ (its : List Value) (n : Nat), Vals xs its ∧ xs.length = its.length ∧ s.heap.get? l = some { cls := .type "list", data := .seq its.toArray n } := by
  obtain ⟨z, its, n, r, e⟩ := I.hok l _ hH
  exact ⟨z, its, n, r, r.length, e⟩

theorem notLongL {n : Nat} (h : n ≤ sizeLine) : Builtin.List.listTooLong n = false := by
  unfold Builtin.List.listTooLong
  exact decide_eq_false (by omega)
end

section
variable {X : Cx}

/-! ### methods -/
def rAppend : V → List V → Hp → VK → Prop := fun x vs H Q => ∃ l xs y, x = .ref l ∧ vs = [y] ∧ H l = some (.lst xs) ∧ xs.length < sizeLine ∧ Q .non (upd H l (.lst (xs ++ [y])))
theorem mt_append : MtM X "list.append" rAppend := by
  intro pins s σ H x vs v us Q I rx rv h
  obtain ⟨l, xs, y, rfl, rfl, hH, hz, q⟩ := h
  cases rx
  obtain ⟨u, rfl, ru⟩ := rv.one
  obtain ⟨z, its, n, r, hl, e⟩ := I.lstM hH
  refine call_meets F.slot_list_append ⟨_, e, rfl⟩ F.entry_list_append (F.args_list_append_2 _ _) (PySem.list_append l its.toArray n u (by rw [List.size_toArray]; omega)) ⟨e, ?_⟩
  refine ⟨.non, _, I.lset (its' := its ++ [u]) hH e (by simp) (r.append (.cons ru .nil)) ?_, rfl, q⟩
  rw [List.length_append, List.length_singleton]
  omega

def rExtend : V → List V → Hp → VK → Prop := fun x vs H Q => ∃ l b xs zs, x = .ref l ∧ vs = [.ref b] ∧ H l = some (.lst xs) ∧ H b = some (.lst zs) ∧ xs.length + zs.length ≤ sizeLine ∧ Q .non (upd H l (.lst (xs ++ zs)))
def rPop : V → List V → Hp → VK → Prop := fun x vs H Q => ∃ l xs y, x = .ref l ∧ vs = [] ∧ H l = some (.lst xs) ∧ xs[xs.length - 1]? = some y ∧ Q y (upd H l (.lst xs.dropLast))
def rPopAt : V → List V → Hp → VK → Prop := fun x vs H Q => ∃ l xs i k y, x = .ref l ∧ vs = [.int i] ∧ H l = some (.lst xs) ∧ -(2 ^ 63) ≤ i ∧ i < 2 ^ 63 ∧ seqIndex? i xs.length = some k ∧ xs[k]? = some y ∧ Q y (upd H l (.lst (xs.eraseIdx k)))
theorem mt_popAt : MtM X "list.pop" rPopAt := by
  intro pins s σ H x vs v us Q I rx rv h
  obtain ⟨l, xs, i, k, y, rfl, rfl, hH, h1, h2, hk, hy, q⟩ := h
  cases rx
  obtain ⟨u, rfl, ru⟩ := rv.one
  obtain ⟨t, rfl⟩ := ru
  obtain ⟨z, its, n, r, hl, e⟩ := I.lstM hH
  obtain ⟨w, hw, rw'⟩ := r.get hy
  refine call_meets F.slot_list_pop ⟨_, e, rfl⟩ F.entry_list_pop (F.args_list_pop_2 _ _)
    (MeetsSeq.list_pop_at l its.toArray n i t k w (fitsIndex_both h1 h2) (by rw [List.size_toArray, ← hl]; exact hk) (by rw [← Array.getElem?_toList]; exact hw) (by rw [List.size_toArray]; omega)) ⟨e, ?_⟩
  refine ⟨y, _, I.lset (its' := its.eraseIdx k) hH e ?_ (r.eraseIdx k) ?_, rw', q⟩
  · show its.toArray.eraseIdxIfInBounds k = (its.eraseIdx k).toArray
    rw [List.eraseIdxIfInBounds_toArray]
  · have := len_erase xs k
    omega

def rReverse : V → List V → Hp → VK → Prop := fun x vs H Q => ∃ l xs, x = .ref l ∧ vs = [] ∧ H l = some (.lst xs) ∧ Q .non (upd H l (.lst xs.reverse))
def rClear : V → List V → Hp → VK → Prop := fun x vs H Q => ∃ l xs, x = .ref l ∧ vs = [] ∧ H l = some (.lst xs) ∧ Q .non (upd H l (.lst []))
/-! ### list + list, list += list, list * int -/
def rCat : R2 := fun x y H Q => ∃ l b xs zs, x = .ref l ∧ y = .ref b ∧ H l = some (.lst xs) ∧ H b = some (.lst zs) ∧ xs.length + zs.length ≤ sizeLine ∧ ∀ p, H p = none → Q (.ref p) (upd H p (.lst (xs ++ zs)))
theorem op_cat : OpR X (binaryOp .Add) rCat := by
  intro pins s σ H x y v u Q I rx ry h
  obtain ⟨l, b, xs, zs, rfl, rfl, hH, hB, hz, q⟩ := h
  cases rx
  cases ry
  obtain ⟨z, its, n, r, hl, e⟩ := I.lstM hH
  obtain ⟨z2, its2, n2, r2, hl2, e2⟩ := I.lstM hB
  refine PySem.P.add_list e e2 ?_ (by rw [List.size_toArray, List.size_toArray]; omega)
  have ea : its.toArray ++ its2.toArray = (its ++ its2).toArray := by simp
  rw [ea]
  exact ⟨.ref _, _, I.lnew (t' := s.toks) (r.append r2) (by rw [List.length_append]; omega), rfl, q _ I.fresh⟩
/-- a list times an int (a negative one is nothing) -/
def rRep : R2 := fun x y H Q => ∃ l k xs, x = .ref l ∧ y = .int k ∧ H l = some (.lst xs) ∧ -(2 ^ 63) ≤ k ∧ k < 2 ^ 63 ∧ xs.length * k.toNat ≤ sizeLine ∧
  ∀ p, H p = none → Q (.ref p) (upd H p (.lst (List.replicate k.toNat xs).flatten))
theorem len_rep {α : Type} (xs : List α) (k : Nat) : (List.replicate k xs).flatten.length = k * xs.length := by
  induction k with
  | zero => simp
  | succ k ih => rw [List.replicate_succ, List.flatten_cons, List.length_append, ih, Nat.succ_mul, Nat.add_comm]
theorem op_rep : OpR X (binaryOp .Mult) rRep := by
  intro pins s σ H x y v u Q I rx ry h
  obtain ⟨l, k, xs, rfl, rfl, hH, h1, h2, hz, q⟩ := h
  cases rx
  obtain ⟨t, rfl⟩ := ry
  obtain ⟨z, its, n, r, hl, e⟩ := I.lstM hH
  have hlen : its.toArray.size * k.toNat ≤ sizeLine := by rw [List.size_toArray, ← hl]; exact hz
  have hcap : ¬ its.toArray.size * k.toNat > (2 ^ 63 - 1) / 8 := by
    have : (sizeLine : Nat) ≤ (2 ^ 63 - 1) / 8 := by decide
    omega
  have hfit : ¬ (!Builtin.List.listFitsIndex k) = true := by
    rw [fitsIndex_both h1 h2]
    exact Bool.false_ne_true
  have hlong : ¬ Builtin.List.listTooLong (its.toArray.size * k.toNat) = true := by
    rw [notLongL hlen]
    exact Bool.false_ne_true
  have hnew : List.foldl (fun x1 x2 => x1 ++ x2) #[] (List.replicate (if its.toArray.isEmpty = true then 0 else k.toNat) its.toArray) = (List.replicate k.toNat its).flatten.toArray := by
    have f0 : ∀ m : Nat, List.foldl (fun x1 x2 => x1 ++ x2) #[] (List.replicate m its.toArray) = (List.replicate m its).flatten.toArray := fun m => by
      have := foldl_rep its m []
      rw [List.nil_append] at this
      exact this
    rw [f0]
    cases its with
    | nil => simp
    | cons a r' => rw [if_neg (by simp)]
  refine wpAny_binaryOp_repeat_ref (T := "list") (U := "int") (by decide) ⟨_, e, rfl⟩ (fun s' => typeIs_int s' k t) noFill_list_mul F.fills_int_mul F.slot_int_rmul repeat_list F.slot_int_index.lookup
    (call_meets F.slot_int_rmul (typeIs_int s k t) F.entry_int_rmul (F.args_int_rmul_2 _ _) (int___rmul___int_list k t l its.toArray n)
      ⟨e, rfl, ⟨_, e, rfl⟩, call_meets F.slot_list_mul ⟨_, e, rfl⟩ F.entry_list_mul (F.args_list_mul_2 _ _) (AutoListH.list___mul___list_int_3 l its.toArray n k t hfit hcap hlong) ⟨e, ?_⟩⟩)
  rw [hnew]
  exact ⟨.ref _, _, I.lnew (t' := s.toks) (r.rep k.toNat) (by rw [len_rep, Nat.mul_comm]; exact hz), rfl, q _ I.fresh⟩

/-! ### del xs[i] -/
end

/-! ### xs[a:b] = ys -/
section
variable {prog : Program} {w : World} {A : Around} {E : Value → Shared → Prop} {s : Shared}
end

section
variable {X : Cx}
end
end L2

namespace Att
open PySem PySem.W PySem.Calls PyProof.Rows

/-! ### the script -/
theorem ints_of_wellAll {P : Params} {h : Heap} : ∀ (ns : List Int) (vs : List Value), WellAll P h vs (ns.map WData.int) → IntsAre vs ns := by
  intro ns
  induction ns with
  | nil =>
    intro vs w
    rw [List.map_nil] at w
    cases w
    exact .nil
  | cons n ns ih =>
    intro vs w
    rw [List.map_cons] at w
    cases w with
    | cons a b =>
      cases a
      exact .cons _ _ (ih _ b)

theorem script_of {l : OpenLaw} {n : Nat} (hn : l.most = some n) {P : Params} {h : Heap} {args : List WData} {vals : List Value}
    (hpre : l.row.toRowW.claim.pre args = true) (hwl : WellAll P h vals args) :
    ∃ a vs ns, vals = [Value.ref a] ∧ args = [WData.list (ns.map WData.int)] ∧ h.get? a = some { cls := .type "list", data := .seq vs.toArray } ∧ IntsAre vs ns ∧ ns.length ≤ n := by
  have hsh : WShape.hasAll [] args [.list .int] = true := (pre_splitW hpre).1
  have hc : l.pre.holds [] { args := args } = true := (pre_splitW hpre).2
  obtain ⟨d, r, rfl, h1, h2⟩ := hasAllW_cons hsh
  obtain rfl := hasAllW_nil h2
  obtain ⟨xs, rfl, h3⟩ := hasW_list h1
  obtain ⟨ns, rfl⟩ := items_int h3
  have hlen : ns.length ≤ n := by
    unfold OpenLaw.pre at hc
    have h4 : (WTm.not (.lt (.lit (.int (n : Int))) (.len (.arg 0)))).holds [] { args := [.list (ns.map .int)] } = true := by
      have h4 := (holds_andW hc).1
      rw [hn] at h4
      exact h4
    have h5 := condW_of h4 (w_not (w_lt w_lit (w_len_list (w_arg rfl))))
    rw [List.length_map] at h5
    refine Nat.le_of_not_lt fun q => ?_
    have q' : (n : Int) < ((ns.length : Nat) : Int) := by omega
    first
      | (rw [decide_eq_true q'] at h5; exact absurd h5 (by decide))
      | (simp at h5; omega)
  cases hwl with
  | cons w1 w2 =>
    cases w2
    cases w1 with
    | list ho hall => exact ⟨_, _, ns, rfl, rfl, ho, ints_of_wellAll ns _ hall, hlen⟩

theorem post_true (l : OpenLaw) (args : List WData) : l.row.toRowW.claim.post args (.bool true) args = true :=
  postW_of (r := l.row.toRowW) (X := (true == true))
    (show WShape.has [] (.bool true) .bool = true by first | rfl | decide | simp [WShape.has, WShape.arms, WShape.armsAll])
    (show (WTm.eq .res (.lit (.bool true))).value [] { args := args, res := some (.bool true), after := args } = some (.bool (true == true)) from w_eq_bool (w_res rfl) w_lit) rfl

/-! ### the attachment: holds_open's last premise (the goal 'hc' behind k_head) from a wpAny of the law's body -/
/-- the same from a codeAny of the CALL (for a layer whose function contracts speak of calls) -/
theorem attach_call {l : OpenLaw} {n : Nat} {q : Program} {loose : List Str} {XP : (Str → Option Value) → Heap → Prop} {YP : World → Heap → Prop} {d : DefRec}
    (hn : l.most = some n) (hdf : d.params.defaults = [])
    (call : ∀ (w : World) (s₀ s₁ : Shared) (mg mb : Str → Option Value) (fa : Addr) (o : Obj) (pm cd doc : Value) (a : Addr) (vs : List Value) (ns : List Int),
      Ground q loose [] XP w s₀ mg mb s₁.heap → YP w s₁.heap →
      s₁.heap.get? fa = some o → o.data = .func (docDef d.name d.params d.body d.scope pm cd doc) → s₁.heap.CodeRec cd d.name → mg d.name = some (.ref fa) →
      s₁.heap.get? a = some { cls := .type "list", data := .seq vs.toArray } → IntsAre vs ns → ns.length ≤ n → s₁.gens = #[] →
      codeAny (model l.prog w) callerA (.call (.ref fa) ⟨[.ref a], []⟩) (fun r s' => r = .ok (.ret (.bool true)) ∧ OldK s₁.heap s'.heap ∧ s'.os = s₁.os ∧ AllBare s'.gens) s₁) :
    WalkO q loose XP YP l.row.toRowW d [] (fun f vs => PySem.call f vs) := by
  intro w s₀ s₁ mg mb G Y fa o pm cd doc dV kV ho hd hcd hD hmg hg args vals as hpre hlay hrd hwl hlo
  obtain rfl : dV = .none := Dflts.none hD hdf
  obtain rfl : kV = .none := Dflts.noKw hD
  obtain ⟨a, vs, ns, rfl, rfl, hobj, hints, hlen⟩ := script_of hn hpre hwl
  refine enter_call (codeAny_mono (call w s₀ s₁ mg mb fa o pm cd doc a vs ns G Y ho (fd_plain hd) hcd hmg hobj hints hlen hg) fun r s' hq => ?_)
  obtain ⟨rfl, h2, h3, h4⟩ := hq
  exact ⟨.inl ⟨.bool true, .bool true, [], rfl, fun _ => rfl, .bool true, post_true l _, fun _ => ⟨List.Pairwise.nil, fun _ hm => (nomatch hm)⟩⟩, h2, h3, h4⟩

/-! ### rules over ANY heap (no ledger) from facts about the written part K: the library's own take a ledger (News) for what they write -/
section
variable {prog : Program} {w : World} {A : Around} {E : Value → Shared → Prop} {s : Shared} {K : Frag}

/-! the whole heap as the ledger: makes every rule that writes through a ledger a rule over any heap -/
def noObjs (h : Heap) : Heap := { h with objs := #[] }
def ledger (h : Heap) (L d : Addr) : List (Addr × Obj) := (List.range h.objs.size).filterMap fun a => if a = L ∨ a = d then none else (h.get? a).map fun o => (a, o)
end
end Att

namespace L2
open PySem PySem.Spec PyProof.Rows

theorem vals_ints : ∀ {vs : List Value} {ns : List Int}, IntsAre vs ns → Vals (ns.map V.int) vs
  | _, _, .nil => .nil
  | _, _, .cons n t h => .cons ⟨t, rfl⟩ (vals_ints h)

/-- nothing is tracked but the script, known to the object (or it is an object of the module) -/
def Only (H : Hp) : Prop := ∀ b, H b = none ∨ ∃ o xs, H b = some (.frz o (.lst xs))

/-- THE HEAD: the law's promise, at the heap behind the top. F, the promise of the law's def, may use that base is part of the heap (so K.In base, base.Ns mainGlobals mg stand in Mod) -/
theorem law_call {P : Program} {w : World} {K : PySem.W.Frag} {mg mb : Str → Option Value} {CX : CXT} {k : Nat} {fa a : Addr} {fd : FuncData} {x : Str} {sp : Sp} {s₁ : Shared} {vs : List Value} {ns : List Int}
    (KX : K.In s₁.heap) (hns : s₁.heap.Ns mainGlobals mg) (hb : s₁.heap.Ns builtinsNs mb) (hbb : ∀ x : Str, x ≠ "__name__" → mb x = bootBuiltins x) (hlim : s₁.heap.NoLimit) (hg : s₁.gens = #[])
    (ha : s₁.heap.get? a = some { cls := .type "list", data := .seq vs.toArray }) (hi : IntsAre vs ns) (hl : ns.length ≤ sizeLine) (hr : Room k callerA)
    (F : ∀ base : Heap, K.In base → base.Ns mainGlobals mg → FnOk P w K mg base CX k fa fd [x] sp) (hbind : ∀ (s : Shared) (u : Value), BindsTo s fd ⟨[u], []⟩ [(x, u)])
    (hsp : ∀ H : Hp, Only H → SqL K H a (ns.map V.int) → sp [.ref a] H (fun v _ => v = .bl true) fun _ _ _ => False)
    (hCX : ∀ H e s', CX [] H s₁ (fun _ _ _ => False) e s' → False) :
    codeAny (model P w) callerA (.call (.ref fa) ⟨[.ref a], []⟩) (fun r s' => r = .ok (.ret (.bool true)) ∧ OldK s₁.heap s'.heap ∧ s'.os = s₁.os ∧ AllBare s'.gens) s₁ := by
  have rv := vals_ints hi
  have lenV := hi.length
  -- from an abstract heap in which nothing but the script may be tracked
  have core : ∀ H : Hp, Only H → SqL K H a (ns.map V.int) → HOk P w H s₁.heap → (∀ b, H b ≠ none → b = a) → (H a ≠ none → K.lookup a = none) →
      codeAny (model P w) callerA (.call (.ref fa) ⟨[.ref a], []⟩) (fun r s' => r = .ok (.ret (.bool true)) ∧ OldK s₁.heap s'.heap ∧ s'.os = s₁.os ∧ AllBare s'.gens) s₁ := by
    intro H hO hS hok hA hK
    have base_of : ∀ {b : Addr} {o : Obj}, s₁.heap.get? b = some o → H b = none → (hidT s₁.heap H).get? b = some o := fun e n => hidT_get e n
    have noA : ∀ {b : Addr} {o : Obj} {es : Array DictEntry} {ep : Nat}, s₁.heap.get? b = some o → o.data = .dict es ep → H b = none := fun {b o es ep} e d => by
      cases q : H b with
      | none => rfl
      | some u =>
        have e' : b = a := hA b (by rw [q]; simp)
        subst e'
        rw [ha] at e; cases e
        have d' : Data.seq vs.toArray _ = Data.dict es ep := d
        cases d'
    have nsK : ∀ {b : Addr} {m : Str → Option Value}, s₁.heap.Ns b m → (hidT s₁.heap H).Ns b m := fun {b m} ⟨o, es, ep, e, d, r⟩ => ⟨o, es, ep, base_of e (noA e d), d, r⟩
    have hKb : K.In (hidT s₁.heap H) := fun b o e => base_of (KX b o e) (by
      cases q : H b with
      | none => rfl
      | some u =>
        have e' : b = a := hA b (by rw [q]; simp)
        subst e'
        rw [hK (by rw [q]; simp)] at e; cases e)
    have hM : Mod K mg (hidT s₁.heap H) := ⟨hKb, nsK hns, ⟨mb, nsK hb, hbb⟩, let ⟨mc, h1, h2⟩ := hlim; ⟨mc, nsK h1, h2⟩⟩
    have e0 : Env0 P w K mg (hidT s₁.heap H) callerA [] s₁ H := ⟨rfl, hM, fun b o e => of_hidT e, Nat.le_of_eq (hidT_size _ _), trivial, fun b hb => absurd (show b ∈ ([] : List Addr) from hb) (by simp), hok, .of_eq hg⟩
    refine codeAny_mono ((F _ hKb (nsK hns)).run callerA [] s₁ H ⟨[.ref a], []⟩ [.ref a] [.ref a] _ _ hr e0 (hbind s₁ (.ref a)) (.cons rfl .nil) (hsp H hO hS)) fun r s' h => ?_
    cases r with
    | error e => exact (hCX H e s' h).elim
    | ok fl =>
      cases fl with
      | next => exact False.elim h
      | brk => exact False.elim h
      | cont => exact False.elim h
      | ret u =>
        obtain ⟨v, H', os, bare, un, hok', r', q⟩ := h
        have q' : v = .bl true := q
        subst q'
        obtain rfl : u = Value.bool true := r'
        refine ⟨rfl, OldK.of_keep fun b o e => ?_, os, bare⟩
        cases q : H b with
        | none => exact un.keep b o e q (by intro z; exact absurd (show b ∈ ([] : List Addr) from z) (by simp)) (by simp)
        | some u =>
          rcases hO b with z | ⟨ob, xs, z⟩
          · rw [q] at z; cases z
          · have z2 := un.frzs b ob _ z
            obtain ⟨e1, _⟩ := hok b _ z
            obtain ⟨e2, _⟩ := hok' b _ z2
            rw [e] at e1; cases e1
            exact e2
  cases hk : K.lookup a with
  | some o =>
    -- the script is one of the module's own objects
    have e := KX a o hk
    rw [ha] at e
    cases e
    refine core (fun _ => none) (fun _ => .inl rfl) (.inr ⟨_, vs.toArray, _, hk, rfl, rfl, rfl, by rw [List.size_toArray, lenV]; exact hl, by simpa using rv⟩) (fun b u z => by have z' : (none : Option HO) = some u := z; cases z') (fun b z => absurd rfl z) fun z => absurd rfl z
  | none =>
    refine core (fun b => if b = a then some (.frz { cls := .type "list", data := .seq vs.toArray } (.lst (ns.map V.int))) else none) (fun b => ?_) (.inl (.inr ⟨{ cls := .type "list", data := .seq vs.toArray }, if_pos rfl⟩)) (fun b u z => ?_) (fun b z => ?_) fun _ => hk
    · by_cases hb : b = a
      · exact .inr ⟨_, _, if_pos hb⟩
      · exact .inl (if_neg hb)
    · by_cases hb : b = a
      · have z' := (if_pos hb).symm.trans z
        cases z'
        subst hb
        exact ⟨ha, by rw [List.length_map]; exact hl, vs, _, rv, ha⟩
      · have z' := (if_neg hb).symm.trans z
        cases z'
    · by_cases hb : b = a
      · exact hb
      · exact absurd (if_neg hb) z
end L2

namespace L2
open PySem PySem.Spec PyProof.Rows

abbrev KOf {K : PySem.W.Frag} {h : Heap} (_ : K.In h) : PySem.W.Frag := K

/-- the goal that k_head leaves (case hc), from the law's promise. F gives the function object fd (K's own) once, then the promise over every base -/
theorem walk_of {l : PySem.W.OpenLaw} {n k : Nat} {q : Program} {loose : List Str} {XP : (Str → Option Value) → Heap → Prop} {YP : World → Heap → Prop} {d : DefRec} {K : Params → PySem.W.Frag} {CX : World → CXT} {sp : World → Sp} {x : Str}
    (hn : l.most = some n) (hn2 : n ≤ sizeLine) (hdf : d.params.defaults = []) (hr : Room k callerA)
    (hY : ∀ (w : World) (h : Heap), YP w h → (K w.params).In h)
    (F : ∀ (w : World) (mg : Str → Option Value) (fa : Addr) (h : Heap), (K w.params).In h → h.Ns mainGlobals mg → mg d.name = some (.ref fa) →
      ∃ fd : FuncData, (∀ (s : Shared) (u : Value), BindsTo s fd ⟨[u], []⟩ [(x, u)]) ∧
        ∀ base : Heap, (K w.params).In base → base.Ns mainGlobals mg → FnOk l.prog w (K w.params) mg base (CX w) k fa fd [x] (sp w))
    (hsp : ∀ (w : World) (H : Hp) (a : Addr) (ns : List Int), ns.length ≤ n → Only H → SqL (K w.params) H a (ns.map V.int) → sp w [.ref a] H (fun v _ => v = .bl true) fun _ _ _ => False)
    (hCX : ∀ (w : World) (H : Hp) (s : Shared) (e : Value) (s' : Shared), CX w [] H s (fun _ _ _ => False) e s' → False) :
    PySem.W.WalkO q loose XP YP l.row.toRowW d [] (fun f vs => PySem.call f vs) := by
  refine Att.attach_call hn hdf fun w s₀ s₁ mg mb fa o pm cd doc a vs ns G Y ho hd hcd hmg hobj hints hlen hg => ?_
  have KX := hY w _ Y
  obtain ⟨fd, hb, hF⟩ := F w mg fa _ KX G.T.g hmg
  exact law_call KX G.T.g G.T.b G.T.builtins G.T.nolimit hg hobj hints (Nat.le_trans hlen hn2) hr hF hb (fun H hO hS => hsp w H a ns hlen hO hS) fun H e s' => hCX w H s₁ e s'
end L2

/- THE LAST THEOREM (shape; LID, My.* are yours):
   My.Adr: a structure of the addresses that your layer names (classes, functions); My.Txt K t: a structure (Prop) of the equations over K;
   My.txt_mk : {K} {implicit addresses ..} (e1 : nsIn K mainGlobals "law" = some (some (.ref f))) (e2 : K.lookup f = some ⟨oc, od, .func (fnOf "law" "law" params body scope dV kV doc pm an cdv ct), sl⟩) (e3 : codeIn K cdv "law" = true) .. : ∃ t, My.Txt K t

set_option maxRecDepth 100000 in
set_option maxHeartbeats 0 in
theorem PySem.Challenge.cw_LID_holds : PySem.Challenge.rw_LID.Holds := by
  w_on; o_law; k_head; (case hw => w_witness2)
  k_fill
  refine L2.walk_of (l := PySem.Challenge.rw_LID) (n := 63) (k := 40) (x := "script") (CX := fun w => ..) (sp := fun _ => My.sp_law) rfl (by decide) rfl ⟨rfl, by decide, by decide⟩ (fun w h Y => PySem.W.kIn_of Y) ?F ?S ?C
  case F =>
    intro w mg fa h KX G hmg
    have T : ∃ t, My.Txt (L2.KOf KX) t := by
      dsimp only [L2.KOf]                          -- K must stand as «<heap const> w.params» for k_is
      refine' My.txt_mk ?e1 ?e2 ?e3 ..
      (case e1 => PySem.W.k_is)                    -- in the order: a name -> its address -> its object -> its parts
      (case e2 => PySem.W.k_is)
      ..
    obtain ⟨t, T⟩ := T
    have e0 := hmg.symm.trans (PySem.W.mg_of KX G T.law)
    cases e0                                       -- fa is the law's own address
    exact ⟨_, fun s u => .of_eq rfl, fun base kb nb => My.law_fn T kb nb⟩     -- if «.of_eq rfl» comes too early: refine' ⟨_, ?b, fun base kb nb => My.law_fn T kb nb⟩; exact fun s u => .of_eq rfl
  case S => exact fun w H a ns hl hO hS => ..
  case C => exact ..
(the tactic k_is has no namespace: write k_is) -/

/-! SHORT WORDS over the layer: a def of the text, its body, what a loop and a test want. -/
namespace L2
open PySem PySem.Spec PyProof.Rows

/-! ### the text by places -/
/-- the j-th statement of a class's body -/
def inClass (s : Stmt) (j : Nat) : Stmt := match s with
  | .ClassDef _ _ _ body _ _ _ _ _ _ _ => body.getD j (.Pass ⟨0, 0, 0, 0⟩)
  | _ => .Pass ⟨0, 0, 0, 0⟩
def defArgs (s : Stmt) : Arguments := match s with
  | .FunctionDef _ a _ _ _ _ _ _ _ _ => a
  | _ => { posonlyargs := [], args := [], vararg := none, kwonlyargs := [], kw_defaults := [], kwarg := none, defaults := [] }
def defBody (s : Stmt) : List Stmt := match s with
  | .FunctionDef _ _ b _ _ _ _ _ _ _ => b
  | _ => []
def defScope (s : Stmt) : Scope := match s with
  | .FunctionDef _ _ _ _ _ _ sc _ _ _ => sc
  | _ => { kind := .function, names := [], isGenerator := false, isCoroutine := false }

/-! ### no exception leaves a def -/
abbrev CX0 : CXT := fun _ _ _ _ _ _ => False
abbrev E0 : XK := fun _ _ _ => False
theorem pass0 {X : Cx} : Passes CX0 X E0 := fun _ _ _ _ _ _ _ h => h.elim

/-! ### a def (or method) of the text as it stands behind the top -/
structure Fun (K : PySem.W.Frag) (x qual : Str) (st : Stmt) (f : Addr) (fd : FuncData) : Prop where
  ex : ∃ (oc : Value) (od : Option Addr) (kV doc pm : Value) (an : Option Addr) (cdv ct : Value) (osl : Array (Option Value)),
    fd = PySem.W.fnOf x qual (defArgs st) (defBody st) (defScope st) .none kV doc pm an cdv ct ∧ K.lookup f = some ⟨oc, od, .func fd, osl⟩ ∧ PySem.W.codeIn K cdv qual = true
  kp : PySem.W.keepIn K (.ref f) = true
section
variable {P : Program} {w : World} {K : PySem.W.Frag} {mg : Str → Option Value} {base : Heap}
/-- THE RULE for a def: its body as a term of rules, and the reading of that term -/
theorem Fun.ok {x qual : Str} {st : Stmt} {f : Addr} {fd : FuncData} {N ps : List Str} {k : Nat} {sp : Sp} (F : Fun K x qual st f fd) (S : FnScope N ps (defScope st)) (len : ∀ vs H Q E, sp vs H Q E → vs.length = ps.length)
    (hbody : ∀ (cdv : Value) (A : Around) (outer : List Env) (s : Shared) (H : Hp) (vs : List V) (Q : VK) (E : XK), Room k (A.deeper (envOfC qual (defScope st) s.heap.objs.size f cdv)) → sp vs H Q E →
      ∃ t, PSs (cxOf CX0 P w K mg base N qual (defScope st) f cdv A outer s H E).nox (defBody st) t ∧ t { nx := fun _ H' => Q .non H', rt := Q } (start N vs) H) : FnOk P w K mg base CX0 (k + 1) f fd ps sp := by
  obtain ⟨oc, od, kV, doc, pm, an, cdv, ct, osl, rfl, lk, hcd⟩ := F.ex
  refine fn_of lk hcd S len fun A outer s H vs Q E hr hsp => ?_
  obtain ⟨t, h, q⟩ := hbody cdv A outer s H vs Q E hr hsp
  exact ⟨t, h.nox, q⟩
/-- how its arguments bind (no defaults): h is «fun _ _ _ _ _ _ us hl => match us, hl with | [_, _], _ => rfl», one _ a parameter -/
theorem Fun.binds {x qual : Str} {st : Stmt} {f : Addr} {fd : FuncData} {ps : List Str} (F : Fun K x qual st f fd)
    (h : ∀ (kV doc pm : Value) (an : Option Addr) (cdv ct : Value) (us : List Value), us.length = ps.length → bindArgs (PySem.W.fnOf x qual (defArgs st) (defBody st) (defScope st) .none kV doc pm an cdv ct) ⟨us, []⟩ = pure (ps.zip us)) : Binds K fd ps [] := by
  obtain ⟨oc, od, kV, doc, pm, an, cdv, ct, osl, rfl, lk, hcd⟩ := F.ex
  exact .all (h kV doc pm an cdv ct)
theorem fun_mk {x qual : Str} {st : Stmt} {f : Addr} {oc : Value} {od an : Option Addr} {osl : Array (Option Value)} {kV doc pm cdv ct : Value} (l : K.lookup f = some ⟨oc, od, .func (PySem.W.fnOf x qual (defArgs st) (defBody st) (defScope st) .none kV doc pm an cdv ct), osl⟩)
    (c : PySem.W.codeIn K cdv qual = true) (k : PySem.W.keepIn K (.ref f) = true) : Fun K x qual st f (PySem.W.fnOf x qual (defArgs st) (defBody st) (defScope st) .none kV doc pm an cdv ct) := ⟨⟨oc, od, kV, doc, pm, an, cdv, ct, osl, rfl, l, c⟩, k⟩
end
/-! ### expressions in short: the name that stands in the i-th slot -/
section
variable {X : Cx}
theorem pv (i : Nat) {x : Str} {pos : Pos} (hN : X.N[i]? = some x := by rfl) (hv : Vis X.env.scope x := by first | exact Or.inl rfl | exact Or.inr (Or.inl rfl) | exact Or.inr (Or.inr rfl)) (hd : (x == ("__debug__" : Str)) = false := by decide)
    (hcd : (x == ("__classdict__" : Str)) = false := by decide) : PE X (.Name x pos) (tVar i) := pe_var hN hv hd hcd
end

/-! ### tests -/
theorem iteF {A B : Prop} (h : B) : if false = true then A else B := by
  rw [if_neg Bool.false_ne_true]
  exact h
theorem iteT {A B : Prop} (h : A) : if true = true then A else B := by
  rw [if_pos rfl]
  exact h
/-! ### heaps -/
/-- all that was tracked is as it was -/
def Same (H H' : Hp) : Prop := ∀ b o, H b = some o → H' b = some o
theorem Same.refl (H : Hp) : Same H H := fun _ _ h => h
theorem Same.trans {H H1 H2 : Hp} (a : Same H H1) (b : Same H1 H2) : Same H H2 := fun c o h => b c o (a c o h)
theorem Same.free {H H' : Hp} (e : Same H H') {l : Addr} (h : H' l = Option.none) : H l = Option.none := by
  cases q : H l with
  | none => rfl
  | some o =>
    rw [e l o q] at h
    cases h
theorem Same.seq {K : PySem.W.Frag} {H H' : Hp} {a : Addr} {xs : List V} (e : Same H H') (h : SqL K H a xs) : SqL K H' a xs := by
  rcases h with (h | ⟨o, h⟩) | h
  · exact .inl (.inl (e _ _ h))
  · exact .inl (.inr ⟨o, e _ _ h⟩)
  · exact .inr h

end L2

set_option Elab.async false
set_option linter.all false
set_option maxRecDepth 100000
namespace L2
open PySem PySem.Spec PyProof.Rows

/-! ### what a value stands for, read off the abstract heap; equality at any depth -/
def PdAt (K : PySem.W.Frag) (H : Hp) : Nat → PyData → V → Prop
  | 0, d, v => match d with
    | .none => v = .non
    | .bool b => v = .bl b
    | .int i => v = .int i
    | .str x => v = .str x ∧ PyData.strOk x = true
    | _ => False
  | n + 1, d, v => match d with
    | .none => v = .non
    | .bool b => v = .bl b
    | .int i => v = .int i
    | .str x => v = .str x ∧ PyData.strOk x = true
    | .list ds => ∃ a xs, v = .ref a ∧ SqL K H a xs ∧ Paired (PdAt K H n) ds xs
    | .tuple ds => ∃ a xs, v = .ref a ∧ SqT K H a xs ∧ Paired (PdAt K H n) ds xs
    | .dict _ => False
section
variable {X : Cx} {pins : List (Addr × Obj)} {σ : St} {H : Hp} {s : Shared}
theorem pd_reads (I : Inv X pins σ H s) : ∀ (n : Nat) (d : PyData) (v : V) (u : Value), PdAt X.K H n d v → RelV v u → ∃ as, Reads s.heap u d as := by
  intro n
  induction n with
  | zero =>
    intro d v u h r
    cases d with
    | none => cases (show v = .non from h); cases (show u = Value.none from r); exact ⟨_, Reads.none⟩
    | bool b => cases (show v = .bl b from h); cases (show u = Value.bool b from r); exact ⟨_, Reads.bool b⟩
    | int i => cases (show v = .int i from h); obtain ⟨t, rfl⟩ := (show ∃ t, u = Value.int i t from r); exact ⟨_, Reads.int i t⟩
    | str x => cases (show v = .str x ∧ _ from h).1; obtain ⟨t, rfl⟩ := (show ∃ t, u = Value.str x t from r); exact ⟨_, Reads.str x t⟩
    | list _ => exact (show False from h).elim
    | tuple _ => exact (show False from h).elim
    | dict _ => exact (show False from h).elim
  | succ n ih =>
    have all : ∀ (ds : List PyData) (xs : List V) (us : List Value), Paired (PdAt X.K H n) ds xs → Vals xs us → ∃ as, ReadsAll s.heap us ds as := by
      intro ds xs us p
      induction p generalizing us with
      | nil => intro r; cases r; exact ⟨_, ReadsAll.nil⟩
      | cons q _ hi =>
        intro r
        cases r with
        | cons r1 rr =>
          obtain ⟨as, h1⟩ := ih _ _ _ q r1
          obtain ⟨bs, h2⟩ := hi _ rr
          exact ⟨_, ReadsAll.cons h1 h2⟩
    intro d v u h r
    cases d with
    | none => cases (show v = .non from h); cases (show u = Value.none from r); exact ⟨_, Reads.none⟩
    | bool b => cases (show v = .bl b from h); cases (show u = Value.bool b from r); exact ⟨_, Reads.bool b⟩
    | int i => cases (show v = .int i from h); obtain ⟨t, rfl⟩ := (show ∃ t, u = Value.int i t from r); exact ⟨_, Reads.int i t⟩
    | str x => cases (show v = .str x ∧ _ from h).1; obtain ⟨t, rfl⟩ := (show ∃ t, u = Value.str x t from r); exact ⟨_, Reads.str x t⟩
    | list ds =>
      obtain ⟨a, xs, rfl, hq, hp⟩ := (show ∃ a xs, v = .ref a ∧ SqL X.K H a xs ∧ Paired (PdAt X.K H n) ds xs from h)
      cases (show u = Value.ref a from r)
      obtain ⟨its, rv, pl, hz⟩ := I.list hq
      obtain ⟨as, ra⟩ := all _ _ _ hp rv
      obtain ⟨o, ho, hc, k, hd⟩ := pl.isList
      exact ⟨_, reads_list_at ho hc hd (by simpa using ra)⟩
    | tuple ds =>
      obtain ⟨a, xs, rfl, hq, hp⟩ := (show ∃ a xs, v = .ref a ∧ SqT X.K H a xs ∧ Paired (PdAt X.K H n) ds xs from h)
      cases (show u = Value.ref a from r)
      obtain ⟨its, rv, pl, hz⟩ := I.tuple hq
      obtain ⟨as, ra⟩ := all _ _ _ hp rv
      obtain ⟨o, ho, hc, k, hd⟩ := (show s.heap.IsTuple a its.toArray from pl)
      exact ⟨_, reads_tuple_at ho hc hd (by simpa using ra)⟩
    | dict _ => exact (show False from h).elim
end
theorem pd_shape {K : PySem.W.Frag} {H : Hp} : ∀ (n : Nat) (d : PyData) (v : V), PdAt K H n d v → d.canLay0 = true ∧ d.depth ≤ n := by
  intro n
  induction n with
  | zero =>
    intro d v h
    cases d with
    | str x => simp [PyData.canLay0, PyData.depth, (show v = .str x ∧ PyData.strOk x = true from h).2]
    | list _ => exact (show False from h).elim
    | tuple _ => exact (show False from h).elim
    | dict _ => exact (show False from h).elim
    | _ => simp [PyData.canLay0, PyData.depth]
  | succ n ih =>
    have all : ∀ (ds : List PyData) (xs : List V), Paired (PdAt K H n) ds xs → PyData.canLayAll0 ds = true ∧ PyData.depthAll ds ≤ n := by
      intro ds xs p
      induction p with
      | nil => simp [PyData.canLayAll0, PyData.depthAll]
      | cons q _ hi =>
        have h1 := ih _ _ q
        simp only [PyData.canLayAll0, PyData.depthAll, h1.1, hi.1, Bool.and_self, true_and]
        have a1 := h1.2
        have a2 := hi.2
        omega
    intro d v h
    cases d with
    | str x => simp [PyData.canLay0, PyData.depth, (show v = .str x ∧ PyData.strOk x = true from h).2]
    | list ds =>
      obtain ⟨a, xs, rfl, hq, hp⟩ := (show ∃ a xs, v = .ref a ∧ SqL K H a xs ∧ Paired (PdAt K H n) ds xs from h)
      have q := all _ _ hp
      have q2 := q.2
      simp only [PyData.canLay0, PyData.depth, q.1, true_and]
      omega
    | tuple ds =>
      obtain ⟨a, xs, rfl, hq, hp⟩ := (show ∃ a xs, v = .ref a ∧ SqT K H a xs ∧ Paired (PdAt K H n) ds xs from h)
      have q := all _ _ hp
      have q2 := q.2
      simp only [PyData.canLay0, PyData.depth, q.1, true_and]
      omega
    | dict _ => exact (show False from h).elim
    | _ => simp [PyData.canLay0, PyData.depth]
def rEqP (K : PySem.W.Frag) : R2 := fun x y H Q => ∃ d e, PdAt K H 9 d x ∧ PdAt K H 9 e y ∧ Q (.bl (PyData.eqv d e)) H
def rNeP (K : PySem.W.Frag) : R2 := fun x y H Q => ∃ d e, PdAt K H 9 d x ∧ PdAt K H 9 e y ∧ Q (.bl (!PyData.eqv d e)) H
section
variable {X : Cx}
theorem pd_shaped {K : PySem.W.Frag} {H : Hp} {d : PyData} {v : V} (h : PdAt K H 9 d v) : SeqAt.shaped d = true := by
  have q := pd_shape 9 d v h
  unfold SeqAt.shaped
  rw [q.1, Bool.true_and]
  exact decide_eq_true (Nat.le_trans q.2 (by decide))
theorem op_eqP (hu : X.A.units + 64 < cLine) : OpR X (compareOp .Eq) (rEqP X.K) := by
  intro pins s σ H x y v u Q I rx ry h
  obtain ⟨d, e, hd, he, q⟩ := h
  obtain ⟨as, ra⟩ := pd_reads I 9 d x v hd rx
  obtain ⟨bs, rb⟩ := pd_reads I 9 e y u he ry
  exact eq_dataH ra rb (pd_shaped hd) (pd_shaped he) hu ⟨.bl _, H, I, rfl, q⟩
theorem op_neP (hu : X.A.units + 64 < cLine) : OpR X (compareOp .NotEq) (rNeP X.K) := by
  intro pins s σ H x y v u Q I rx ry h
  obtain ⟨d, e, hd, he, q⟩ := h
  obtain ⟨as, ra⟩ := pd_reads I 9 d x v hd rx
  obtain ⟨bs, rb⟩ := pd_reads I 9 e y u he ry
  exact ne_dataH ra rb (pd_shaped hd) (pd_shaped he) hu ⟨.bl _, H, I, rfl, q⟩
end
abbrev iL (ns : List Int) : List V := ns.map V.int
abbrev pL (ns : List Int) : PyData := .list (ns.map PyData.int)
theorem eqvAll_ints : ∀ (xs ys : List Int), PyData.eqvAll (xs.map PyData.int) (ys.map PyData.int) = decide (xs = ys)
  | [], [] => by simp [PyData.eqvAll]
  | [], y :: ys => by simp [PyData.eqvAll]
  | x :: xs, [] => by simp [PyData.eqvAll]
  | x :: xs, y :: ys => by
    simp only [List.map_cons, PyData.eqvAll, PyData.eqv, eqvAll_ints xs ys, List.cons.injEq]
    by_cases h1 : x = y <;> by_cases h2 : xs = ys <;> simp [h1, h2]
theorem eqv_pints (xs ys : List Int) : PyData.eqv (pL xs) (pL ys) = decide (xs = ys) := by
  show PyData.eqvAll _ _ = _
  exact eqvAll_ints xs ys
theorem paired_ints {K : PySem.W.Frag} {H : Hp} {n : Nat} : ∀ ns : List Int, Paired (PdAt K H n) (ns.map PyData.int) (iL ns)
  | [] => .nil
  | i :: ns => .cons (by cases n <;> exact (rfl : V.int i = V.int i)) (paired_ints ns)
theorem pd_ints {K : PySem.W.Frag} {H : Hp} {n : Nat} {a : Addr} {ns : List Int} (h : SqL K H a (iL ns)) : PdAt K H (n + 1) (pL ns) (.ref a) := ⟨a, iL ns, rfl, h, paired_ints ns⟩
theorem pd_int {K : PySem.W.Frag} {H : Hp} {n : Nat} {i : Int} : PdAt K H n (.int i) (.int i) := by cases n <;> exact (rfl : V.int i = V.int i)
/-! ### intro rules -/
section
variable {K : PySem.W.Frag} {σ : St} {H : Hp} {Q : VK}
theorem i_var {i : Nat} {v : V} (h : σ[i]? = some (some v)) (q : Q v H) : tVar i σ H Q := ⟨v, h, q⟩
theorem i_I0 {g : Int → Int → V} {i j : Int} (q : Q (g i j) H) : rI0 g (.int i) (.int j) H Q := ⟨i, j, rfl, rfl, q⟩
theorem i_U {g : Int → V} {i : Int} (q : Q (g i) H) : rU g (.int i) H Q := ⟨i, rfl, q⟩
theorem beq_dec (i j : Int) : (i == j) = decide (i = j) := by
  by_cases h : i = j <;> simp [h]
theorem i_eqI {i j : Int} (q : Q (.bl (decide (i = j))) H) : rEqP K (.int i) (.int j) H Q := ⟨_, _, pd_int, pd_int, by rw [← beq_dec] at q; simpa [PyData.eqv] using q⟩
theorem i_neI {i j : Int} (q : Q (.bl (!decide (i = j))) H) : rNeP K (.int i) (.int j) H Q := ⟨_, _, pd_int, pd_int, by rw [← beq_dec] at q; simpa [PyData.eqv] using q⟩
end

/-! ### + and * of more kinds, an item -/
def rAddP : R2 := fun x y H Q => rI0 (fun i j => .int (i + j)) x y H Q ∨ rCat x y H Q
def rIxP (K : PySem.W.Frag) : R2 := fun x y H Q => rIxL K x y H Q ∨ rIxT K x y H Q
def rMulP : R2 := fun x y H Q => rI CMul (fun i j => .int (i * j)) x y H Q ∨ rRep x y H Q
section
variable {X : Cx}
theorem op_addP : OpR X (binaryOp .Add) rAddP := op_add.or op_cat
theorem op_mulP : OpR X (binaryOp .Mult) rMulP := op_mul.or op_rep
theorem ix_P : IxR X (rIxP X.K) := ix_list.or ix_tup
end
section
variable {K : PySem.W.Frag} {σ : St} {H : Hp} {Q : VK}
theorem i_addI {i j : Int} (q : Q (.int (i + j)) H) : rAddP (.int i) (.int j) H Q := .inl ⟨i, j, rfl, rfl, q⟩
theorem i_addL {a b : Addr} {xs ys : List V} (ha : H a = some (.lst xs)) (hb : H b = some (.lst ys)) (hl : xs.length + ys.length ≤ sizeLine) (q : ∀ p, H p = none → Q (.ref p) (upd H p (.lst (xs ++ ys)))) : rAddP (.ref a) (.ref b) H Q := .inr ⟨a, b, xs, ys, rfl, rfl, ha, hb, hl, q⟩
theorem i_mulI {i j : Int} (c : CMul i j) (q : Q (.int (i * j)) H) : rMulP (.int i) (.int j) H Q := .inl ⟨i, j, rfl, rfl, c, q⟩
theorem atI_ints {ns : List Int} {i : Int} (h0 : 0 ≤ i) (h1 : i < ns.length) : ∃ v, atI (iL ns) i = some (.int v) ∧ ns[i.toNat]? = some v ∧ v ∈ ns := by
  have hl : i.toNat < ns.length := by omega
  refine ⟨ns[i.toNat], ?_, by simp [hl], List.getElem_mem hl⟩
  have := atI_nat (xs := iL ns) (j := i.toNat) (v := .int ns[i.toNat]) (by simp [iL, hl])
  rwa [Int.toNat_of_nonneg h0] at this
/-- an item of a list of iL, in bounds -/
theorem i_ixL {p : Addr} {ns : List Int} {i : Int} (h : SqL K H p (iL ns)) (h0 : 0 ≤ i) (h1 : i < ns.length) (q : ∀ v, ns[i.toNat]? = some v → v ∈ ns → Q (.int v) H) : rIxP K (.ref p) (.int i) H Q := by
  obtain ⟨v, e1, e2, e3⟩ := atI_ints h0 h1
  exact .inl ⟨p, _, i, _, rfl, rfl, h, e1, q v e2 e3⟩
/-- an item of any list, at a place from the front -/
theorem i_ixN {p : Addr} {xs : List V} {i : Int} {v : V} (h : SqL K H p xs) (h0 : 0 ≤ i) (e : xs[i.toNat]? = some v) (q : Q v H) : rIxP K (.ref p) (.int i) H Q := by
  have := atI_nat (xs := xs) (j := i.toNat) (v := v) e
  rw [Int.toNat_of_nonneg h0] at this
  exact .inl ⟨p, _, i, _, rfl, rfl, h, this, q⟩
theorem i_ixT {p : Addr} {xs : List V} {i : Int} {v : V} (h : SqT K H p xs) (h0 : 0 ≤ i) (e : xs[i.toNat]? = some v) (q : Q v H) : rIxP K (.ref p) (.int i) H Q := by
  have := atI_nat (xs := xs) (j := i.toNat) (v := v) e
  rw [Int.toNat_of_nonneg h0] at this
  exact .inr ⟨p, _, i, _, rfl, rfl, h, this, q⟩
theorem i_ixLast {p : Addr} {xs : List V} {v : V} (h : SqL K H p (xs ++ [v])) (q : Q v H) : rIxP K (.ref p) (.int (-1)) H Q := .inl ⟨p, _, _, _, rfl, rfl, h, atI_last xs v, q⟩
end

/-! ### calls of the text's own defs -/
def Callee (P : Program) (w : World) (K : PySem.W.Frag) (mg : Str → Option Value) (base : Heap) (x : Str) (k : Nat) (sp : Sp) : Prop :=
  ∃ f fd ps, FnOk P w K mg base CX0 k f fd ps sp ∧ mg x = some (.ref f) ∧ PySem.W.keepIn K (.ref f) = true ∧ Binds K fd ps []
def Def (K : PySem.W.Frag) (mg : Str → Option Value) (x : Str) (st : Stmt) : Prop := ∃ f fd, Fun K x x st f fd ∧ mg x = some (.ref f)
section
variable {X : Cx} {x : Str} {k : Nat} {sp : Sp} {e : Expr} {es : List Expr} {t : TA} {p pos : Pos}
theorem pe_callN (C : Callee X.prog X.w X.K X.mg X.base x k sp) (hr : Room k X.A) (hg : Gl X x) (ha : PA X (e :: es) t)
    (he : starEach (e :: es) X.env = (false, eval e X.env) :: starEach es X.env := by rfl) (hpl : (backTo pos (starEach es X.env)).any (·.1) = false := by rfl)
    (hdb : (x == ("__debug__" : Str)) = false := by decide) : PE X (.Call (.Name x p) (e :: es) [] pos) (tCall sp [] E0 t) := by
  obtain ⟨f, fd, ps, F, hm, hk, hb⟩ := C
  exact pe_call F hr hg hm hk hb .nil pass0 ha (hdb := hdb) (he := he) (hpl := hpl)
def rTru (K : PySem.W.Frag) (x : V) (H : Hp) (Q : Bool → Hp → Prop) : Prop := ∃ k, TruV K x H k ∧ Q k H
def tTru (K : PySem.W.Frag) (ta : TE) : TT := fun σ H Q => ta σ H fun x H' => rTru K x H' Q
theorem pt_truthN {a : Expr} {ta : TE} (ha : PE X a ta) (he : ∀ whole, isTrue a X.env whole = (do let v ← whole; standAt a.pos; holding [v] (truthy v))) :
    PT X a (tTru X.K ta) := pt_truth ha he
end
theorem Def.ok {P : Program} {w : World} {K : PySem.W.Frag} {mg : Str → Option Value} {base : Heap} {x : Str} {st : Stmt} {N ps : List Str} {k : Nat} {sp : Sp} (D : Def K mg x st) (S : FnScope N ps (defScope st))
    (bd : ∀ (kV doc pm : Value) (an : Option Addr) (cdv ct : Value) (us : List Value), us.length = ps.length → bindArgs (PySem.W.fnOf x x (defArgs st) (defBody st) (defScope st) .none kV doc pm an cdv ct) ⟨us, []⟩ = pure (ps.zip us))
    (len : ∀ vs H Q E, sp vs H Q E → vs.length = ps.length)
    (hbody : ∀ (f : Addr) (cdv : Value) (A : Around) (outer : List Env) (s : Shared) (H : Hp) (vs : List V) (Q : VK) (E : XK), Room k (A.deeper (envOfC x (defScope st) s.heap.objs.size f cdv)) → sp vs H Q E →
      ∃ t, PSs (cxOf CX0 P w K mg base N x (defScope st) f cdv A outer s H E).nox (defBody st) t ∧ t { nx := fun _ H' => Q .non H', rt := Q } (start N vs) H) : Callee P w K mg base x (k + 1) sp := by
  obtain ⟨f, fd, F, hm⟩ := D
  exact ⟨f, fd, ps, F.ok S len fun cdv A outer s H vs Q E hr h => hbody f cdv A outer s H vs Q E hr h, hm, F.kp, F.binds bd⟩

/-! ### built-ins -/
def rLen (K : PySem.W.Frag) : List V → Hp → VK → Prop := fun xs H Q => ∃ x n, xs = [x] ∧ LenV K x H n ∧ Q (.int n) H
def rIsi (K : PySem.W.Frag) : List V → Hp → VK → Prop := fun xs H Q => ∃ x t n b, xs = [x, .ty n] ∧ TyOf K H x t ∧ PySem.W.kitOne K t (.type n) = some b ∧ Q (.bl b) H
def rIntOf : List V → Hp → VK → Prop := fun xs H Q => (∃ i, xs = [.int i] ∧ Q (.int i) H) ∨ ∃ k, xs = [.bl k] ∧ Q (.int (if k then 1 else 0)) H
def rAbs : List V → Hp → VK → Prop := fun xs H Q => ∃ i, xs = [.int i] ∧ Q (.int (if i < 0 then -i else i)) H
def rListOf (K : PySem.W.Frag) : List V → Hp → VK → Prop := fun xs H Q => ∃ p ys, xs = [.ref p] ∧ (SqL K H p ys ∨ SqT K H p ys) ∧ ∀ l, H l = none → Q (.ref l) (upd H l (.lst ys))
section
variable {X : Cx}
theorem call_lenN : CallR X (.builtin "len") (rLen X.K) := call_len
theorem call_intN : CallR X (.type "int") rIntOf := call_int1
theorem call_absN : CallR X (.builtin "abs") rAbs := call_abs
theorem call_listN : CallR X (.type "list") (rListOf X.K) := call_list_of
end
section
variable {K : PySem.W.Frag} {σ : St} {H : Hp} {Q : VK}
theorem i_len {p : Addr} {xs : List V} (h : SqL K H p xs) (q : Q (.int xs.length) H) : rLen K [.ref p] H Q := ⟨_, _, rfl, .inl ⟨xs, h, rfl⟩, q⟩
theorem i_lenI {p : Addr} {ns : List Int} (h : SqL K H p (iL ns)) (q : Q (.int ns.length) H) : rLen K [.ref p] H Q := ⟨_, _, rfl, .inl ⟨_, h, rfl⟩, by simpa [iL] using q⟩
theorem i_intB {k : Bool} (q : Q (.int (if k then 1 else 0)) H) : rIntOf [.bl k] H Q := .inr ⟨k, rfl, q⟩
theorem i_abs {i : Int} (q : Q (.int (if i < 0 then -i else i)) H) : rAbs [.int i] H Q := ⟨i, rfl, q⟩
theorem i_listL {p : Addr} {ys : List V} (h : SqL K H p ys) (q : ∀ l, H l = none → Q (.ref l) (upd H l (.lst ys))) : rListOf K [.ref p] H Q := ⟨p, ys, rfl, .inl h, q⟩
theorem isi_ii : PySem.W.kitOne K (.type "int") (.type "int") = some true := by kernel_rfl
theorem isi_ib : PySem.W.kitOne K (.type "int") (.type "bool") = some false := by kernel_rfl
theorem isi_ll : PySem.W.kitOne K (.type "list") (.type "list") = some true := by kernel_rfl
theorem isi_il : PySem.W.kitOne K (.type "int") (.type "list") = some false := by kernel_rfl
theorem isi_id : PySem.W.kitOne K (.type "int") (.type "dict") = some false := by kernel_rfl
theorem isi_it : PySem.W.kitOne K (.type "int") (.type "tuple") = some false := by kernel_rfl
theorem isi_bb : PySem.W.kitOne K (.type "bool") (.type "bool") = some true := by kernel_rfl
theorem i_isiII {i : Int} (q : Q (.bl true) H) : rIsi K [.int i, .ty "int"] H Q := ⟨_, _, _, true, rfl, .int i, isi_ii, q⟩
theorem i_isiIB {i : Int} (q : Q (.bl false) H) : rIsi K [.int i, .ty "bool"] H Q := ⟨_, _, _, false, rfl, .int i, isi_ib, q⟩
theorem i_isiIL {i : Int} (q : Q (.bl false) H) : rIsi K [.int i, .ty "list"] H Q := ⟨_, _, _, false, rfl, .int i, isi_il, q⟩
theorem i_isiID {i : Int} (q : Q (.bl false) H) : rIsi K [.int i, .ty "dict"] H Q := ⟨_, _, _, false, rfl, .int i, isi_id, q⟩
theorem i_isiIT {i : Int} (q : Q (.bl false) H) : rIsi K [.int i, .ty "tuple"] H Q := ⟨_, _, _, false, rfl, .int i, isi_it, q⟩
theorem i_isiBB {b : Bool} (q : Q (.bl true) H) : rIsi K [.bl b, .ty "bool"] H Q := ⟨_, _, _, true, rfl, .bl b, isi_bb, q⟩
end

/-! ### tests, sizes -/
theorem i_if {p : Prop} [Decidable p] {A B : Prop} (h1 : p → A) (h2 : ¬ p → B) : if decide p = true then A else B := by
  by_cases h : p
  · rw [decide_eq_true h]; exact iteT (h1 h)
  · rw [decide_eq_false h]; exact iteF (h2 h)
theorem i_ifn {p : Prop} [Decidable p] {A B : Prop} (h1 : ¬ p → A) (h2 : p → B) : if (!decide p) = true then A else B := by
  by_cases h : p
  · rw [decide_eq_true h]; exact iteF (h2 h)
  · rw [decide_eq_false h]; exact iteT (h1 h)
theorem i_ifb {b : Bool} {A B : Prop} (h1 : b = true → A) (h2 : b = false → B) : if b = true then A else B := by
  cases b
  · exact iteF (h2 rfl)
  · exact iteT (h1 rfl)
theorem iteNT {A B : Prop} (h : B) : if (!true) = true then A else B := iteF h
theorem iteNF {A B : Prop} (h : A) : if (!false) = true then A else B := iteT h
theorem szl {n : Nat} (h : n ≤ 100000) : n ≤ sizeLine := Nat.le_trans h (by rw [sizeLine_eq]; decide)
theorem szlt {n : Nat} (h : n ≤ 100000) : n < sizeLine := Nat.lt_of_le_of_lt h (by rw [sizeLine_eq]; decide)
theorem same_upd {H : Hp} {l : Addr} {o : HO} (h : H l = none) : Same H (upd H l o) := fun b u e => by rw [upd_ne (ne_of_none e h)]; exact e
/-- all but one address as it was -/
def SameBut (l : Addr) (H H' : Hp) : Prop := ∀ b o, b ≠ l → H b = some o → H' b = some o
theorem cmul_l {i j : Int} (h1 : -(2 ^ 64) < i) (h2 : i < 2 ^ 64) : CMul i j := .inl ⟨h1, h2⟩
theorem cmul_r {i j : Int} (h1 : -(2 ^ 64) < j) (h2 : j < 2 ^ 64) : CMul i j := .inr ⟨h1, h2⟩
end L2

namespace L2
open PySem PySem.Spec PyProof.Rows
theorem bt_int : bootBuiltins "int" = some (.type "int") := by first | exact PySem.boot_int | exact PySem.Pv.boot_int | exact PyProof.Rows.boot_int
theorem bt_list : bootBuiltins "list" = some (.type "list") := by first | exact PySem.boot_list | exact PySem.Pv.boot_list | exact PyProof.Rows.boot_list
theorem bt_min : bootBuiltins "min" = some (.builtin "min") := by first | exact PySem.boot_min | exact PySem.Pv.boot_min | exact PyProof.Rows.boot_min
theorem bt_sum : bootBuiltins "sum" = some (.builtin "sum") := by first | exact PySem.boot_sum | exact PySem.Pv.boot_sum | exact PyProof.Rows.boot_sum
theorem bt_abs : bootBuiltins "abs" = some (.builtin "abs") := by first | exact PySem.boot_abs | exact PySem.Pv.boot_abs | exact PyProof.Rows.boot_abs
theorem bt_len : bootBuiltins "len" = some (.builtin "len") := by first | exact PySem.boot_len | exact PySem.Pv.boot_len | exact PyProof.Rows.boot_len
section
variable {X : Cx} {pos p1 p2 : Pos} {k1 k2 : Nat}
theorem pe_powK {i j r : Int} (h : 0 ≤ j ∧ j ≤ 1000000 ∧ i.natAbs < 2 ^ 64 ∧ i ^ j.toNat = r) : PE X (.BinOp (.Constant (.int i) k1 p1) .Pow (.Constant (.int j) k2 p2) pos) (tC (.int r)) := by
  intro pins s σ H Q I q
  refine pe_op op_pow pe_int pe_int pins s σ H Q I ?_
  exact ⟨i, j, rfl, rfl, ⟨h.1, h.2.1, h.2.2.1⟩, by have e := h.2.2.2; subst e; exact q⟩
theorem pe_negK {i r : Int} (h : -i = r) : PE X (.UnaryOp .USub (.Constant (.int i) k1 p1) pos) (tC (.int r)) := by
  intro pins s σ H Q I q
  refine pe_un un_neg pe_int pins s σ H Q I ?_
  exact ⟨i, rfl, by subst h; exact q⟩
end
section
variable {K : PySem.W.Frag} {σ : St} {H : Hp} {Q : VK} {i j : Int}
theorem i_div (h0 : 0 < j) (h1 : j < 1073741824) (q : Q (.int (i / j)) H) : rI CDiv (fun i j => .int (i / j)) (.int i) (.int j) H Q := ⟨i, j, rfl, rfl, ⟨h0, h1⟩, q⟩
theorem i_mod (h0 : 0 < j) (q : Q (.int (i % j)) H) : rI (fun _ j => 0 < j) (fun i j => .int (i % j)) (.int i) (.int j) H Q := ⟨i, j, rfl, rfl, h0, q⟩
theorem i_app {l : Addr} {xs : List V} {y : V} (h : H l = some (.lst xs)) (hl : xs.length < sizeLine) (q : Q .non (upd H l (.lst (xs ++ [y])))) : rAppend (.ref l) [y] H Q := ⟨l, xs, y, rfl, rfl, h, hl, q⟩
end
end L2

namespace L2
open PySem PySem.Spec PyProof.Rows
/-! ### loops, kept folded -/
def LoopI (J : It) (g : TG) (tb : TS) (D : Ends) (σ : St) (H1 : Hp) : Prop := ∃ W : Nat → Nat → St → Hp → Prop, (∃ m, W 0 m σ H1) ∧ ∀ i m σ H, W i m σ H →
  (J.stop i H ∧ D.nx σ H) ∨ (J.go i H ∧ ∃ N : St → Hp → Prop, (∀ σ' H', N σ' H' → ∃ m', m' < m ∧ W (i + 1) m' σ' H') ∧ ∀ x H', J.yld i H x H' → g x σ H' fun σ2 H2 => tb { D with nx := N, ct := N, bk := D.nx } σ2 H2)
theorem tFor_eq (wi : TI) (g : TG) (tb : TS) : tFor wi g tb = fun D σ H => wi σ H fun J H1 => LoopI J g tb D σ H1 := rfl
theorem lp_list {K : PySem.W.Frag} {a : Addr} {xs : List V} {g : TG} {tb : TS} {D : Ends} {σ : St} {H : Hp} (Pv : Nat → St → Hp → Prop) (h0 : Pv 0 σ H) (hl : ∀ i σ H, i ≤ xs.length → Pv i σ H → SqL K H a xs)
    (hs : ∀ i x σ H, xs[i]? = some x → Pv i σ H → g x σ H fun σ2 H2 => tb { D with nx := Pv (i + 1), ct := Pv (i + 1), bk := D.nx } σ2 H2) (hd : ∀ σ H, Pv xs.length σ H → D.nx σ H) : LoopI (Itl K a) g tb D σ H := for_list Pv h0 hl hs hd
theorem lp_ints {K : PySem.W.Frag} {a : Addr} {ns : List Int} {g : TG} {tb : TS} {D : Ends} {σ : St} {H : Hp} (Pv : Nat → St → Hp → Prop) (h0 : Pv 0 σ H) (hl : ∀ i σ H, i ≤ ns.length → Pv i σ H → SqL K H a (iL ns))
    (hs : ∀ i x σ H, ns[i]? = some x → Pv i σ H → g (.int x) σ H fun σ2 H2 => tb { D with nx := Pv (i + 1), ct := Pv (i + 1), bk := D.nx } σ2 H2) (hd : ∀ σ H, Pv ns.length σ H → D.nx σ H) : LoopI (Itl K a) g tb D σ H := by
  have e : (iL ns).length = ns.length := by simp [iL]
  refine for_list (xs := iL ns) Pv h0 (fun i σ H h p => hl i σ H (by rw [e] at h; exact h) p) (fun i x σ H hx p => ?_) (fun σ H p => hd σ H (by rw [e] at p; exact p))
  rw [List.getElem?_map] at hx
  cases q : ns[i]? with
  | none => rw [q] at hx; cases hx
  | some z =>
    rw [q] at hx
    cases hx
    exact hs i z σ H q p
theorem lp_range {lo : Int} {n : Nat} {g : TG} {tb : TS} {D : Ends} {σ : St} {H : Hp} (Pv : Nat → St → Hp → Prop) (h0 : Pv 0 σ H)
    (hs : ∀ i σ H, i < n → Pv i σ H → g (.int (lo + i)) σ H fun σ2 H2 => tb { D with nx := Pv (i + 1), ct := Pv (i + 1), bk := D.nx } σ2 H2) (hd : ∀ σ H, Pv n σ H → D.nx σ H) : LoopI (Itr lo n) g tb D σ H := for_range Pv h0 hs hd
theorem i_truB {K : PySem.W.Frag} {b : Bool} {H : Hp} {Q : Bool → Hp → Prop} (q : Q b H) : rTru K (.bl b) H Q := ⟨b, rfl, q⟩
theorem i_truL {K : PySem.W.Frag} {p : Addr} {xs : List V} {H : Hp} {Q : Bool → Hp → Prop} (h : SqL K H p xs) (q : Q (!xs.isEmpty) H) : rTru K (.ref p) H Q := ⟨_, .inl ⟨xs, h, rfl⟩, q⟩
end L2

namespace L2
open PySem PySem.Spec PyProof.Rows
/-! ### [a, b, ..][i]: the list is not tracked -/
def rMenu (xs : List V) (y : V) (H : Hp) (Q : VK) : Prop := ∃ i v, y = .int i ∧ atI xs i = some v ∧ Q v H
def tMenu (t : TA) (ti : TE) : TE := fun σ H Q => t σ H fun xs H1 => xs.length ≤ sizeLine ∧ ti σ H1 fun y H2 => rMenu xs y H2 Q
section
variable {X : Cx} {es : List Expr} {b : Expr} {t : TA} {tb : TE} {p1 pos : Pos}
theorem item_raw {X : Cx} {value slice : Expr} {pins : List (Addr × Obj)} {s : Shared} {σ : St} {H : Hp} {p : Addr} {its : List Value} {xs : List V} {i : Int} {tk : Tok} {z : V} {Q : VK} (I : Inv X pins σ H s) (r : Vals xs its) (hz : xs.length ≤ sizeLine)
    (pl : s.heap.IsList p its.toArray) (he : atI xs i = some z) (q : Q z H) (hs : subscripted slice false (.ref p) (.int i tk) = operate [.ref p, .int i tk] (getItem (.ref p) (.int i tk))) :
    wpAny (model X.prog X.w) X.A (subscriptTail value slice (.ref p) (.int i tk)) (EP X pins σ Q) X.xe s := by
  obtain ⟨j, h1, h2, h3, h4, h5⟩ := atI_get he
  obtain ⟨w, ew, rw'⟩ := r.get h2
  have hl := r.length
  have hn := line63
  have fin : EP X pins σ Q w s := ⟨z, H, I, rw', q⟩
  by_cases h0 : 0 ≤ i
  · have hj : i.toNat = j := by
      rw [seqIndex_of h0 h5] at h1
      exact Option.some.inj h1
    exact item_listR pl h0 (by omega) (by rw [hj]; simpa using ew) fin hs
  · have hj : (i + (its.toArray.size : Int)).toNat = j := by
      rw [seqIndex_neg (by omega) h4] at h1
      rw [List.size_toArray, ← hl]
      exact Option.some.inj h1
    exact subscriptTail_builtinR (x := w) pl.typeIs slot_list_getitem.lookup
      (wpAny_getItem_list_neg (Q := fun r s' => r = w ∧ EP X pins σ Q r s') pl (by omega) (by rw [List.size_toArray] <;> omega) (by omega) (by rw [hj]; simpa using ew) ⟨rfl, fin⟩) hs
theorem pe_menu (h : PA X es t) (hb : PE X b tb) (hs : PlainIx b) : PE X (.Subscript (.List es p1) b pos) (tMenu t tb) := by
  intro pins s σ H Q I hq
  refine Subscript_ (wpAny_List_spliced (thn (h p1 pins s σ H _ I hq) fun us s1 ⟨xs, H1, I1, r, z, q⟩ => ⟨by rw [← r.length]; exact z, ?_⟩))
  have hf : H1 s1.heap.objs.size = none := I1.hok.fresh (Nat.le_refl _)
  have I2 := I1.kept (t' := s1.toks) (h' := s1.heap.push { cls := .type "list", data := .seq us.toArray 0 }) (fun b u e => Heap.get?_push_of_some _ e)
  have I3 := I2.pins_of (pins' := pins ++ [(s1.heap.objs.size, { cls := .type "list", data := .seq us.toArray 0 })]) (fun p hp => by
    rcases List.mem_append.mp hp with hp | hp
    · exact I2.pin p (List.mem_append_right _ hp)
    · have e : p = (s1.heap.objs.size, ({ cls := .type "list", data := .seq us.toArray 0 } : Obj)) := by simpa using hp
      subst e
      refine ⟨Heap.get?_push_size _ rfl, hf, Nat.ne_of_gt I1.lt, I1.nofs (Nat.le_refl _), fun v e => ?_⟩
      have e' : Data.seq us.toArray 0 = Data.cell v := e
      cases e')
  refine thn (hb _ _ σ H1 _ I3 q) fun u s2 ⟨y, H2, I4, r4, i, v, hy, hv, qq⟩ => ?_
  subst hy
  obtain ⟨tk, rfl⟩ := r4
  have pn := (I4.pin (s1.heap.objs.size, { cls := .type "list", data := .seq us.toArray 0 }) (by simp)).1
  exact item_raw I4.unpinned r z ⟨_, pn, rfl, _, rfl⟩ hv qq (hs _ _)
end
section
variable {H : Hp} {Q : VK} {i : Int}
theorem i_menu3 {xa xb xc : Int} (h0 : 0 ≤ i) (h1 : i < 3) (q : ∀ z, (i = 0 ∧ z = xa) ∨ (i = 1 ∧ z = xb) ∨ (i = 2 ∧ z = xc) → Q (.int z) H) : rMenu [.int xa, .int xb, .int xc] (.int i) H Q := by
  have hi : i = 0 ∨ i = 1 ∨ i = 2 := by omega
  rcases hi with h | h | h
  · subst h; exact ⟨0, _, rfl, rfl, q _ (by simp)⟩
  · subst h; exact ⟨1, _, rfl, rfl, q _ (by simp)⟩
  · subst h; exact ⟨2, _, rfl, rfl, q _ (by simp)⟩
theorem i_menu4 {xa xb xc xd : Int} (h0 : 0 ≤ i) (h1 : i < 4) (q : ∀ z, (i = 0 ∧ z = xa) ∨ (i = 1 ∧ z = xb) ∨ (i = 2 ∧ z = xc) ∨ (i = 3 ∧ z = xd) → Q (.int z) H) : rMenu [.int xa, .int xb, .int xc, .int xd] (.int i) H Q := by
  have hi : i = 0 ∨ i = 1 ∨ i = 2 ∨ i = 3 := by omega
  rcases hi with h | h | h | h
  · subst h; exact ⟨0, _, rfl, rfl, q _ (by simp)⟩
  · subst h; exact ⟨1, _, rfl, rfl, q _ (by simp)⟩
  · subst h; exact ⟨2, _, rfl, rfl, q _ (by simp)⟩
  · subst h; exact ⟨3, _, rfl, rfl, q _ (by simp)⟩
end
theorem cxOf_K (CX : CXT) (P : Program) (w : World) (K : PySem.W.Frag) (mg : Str → Option Value) (base : Heap) (N : List Str) (qual : Str) (scope : Scope) (f : Addr) (cd : Value) (A : Around) (outer : List Env) (s : Shared) (H : Hp) (E : XK) : (cxOf CX P w K mg base N qual scope f cd A outer s H E).K = K := rfl
end L2

namespace L2
open PySem PySem.Spec PyProof.Rows
/-! ### a statement with a word behind it: what follows is read once -/
def tJoin (t u : TS) : TS := fun D σ H => ∃ Pj : St → Hp → Prop, t { D with nx := Pj } σ H ∧ ∀ σ' H', Pj σ' H' → u D σ' H'
theorem pss_join {X : Cx} {st : Stmt} {rest : List Stmt} {t u : TS} (h1 : PS X st t) (h2 : PSs X rest u) : PSs X (st :: rest) (tJoin t u) := by
  intro pins s σ H D I h
  obtain ⟨Pj, ht, hu⟩ := h
  refine wpAny_execs_cons (thn (h1 pins s σ H _ I ht) fun f s1 q => ?_)
  cases f with
  | next =>
    obtain ⟨σ1, H1, I1, q1⟩ := q
    exact h2 pins s1 σ1 H1 D I1 (hu _ _ q1)
  | brk => exact q
  | cont => exact q
  | ret u => exact q
end L2

namespace L2
open PySem PySem.Spec PyProof.Rows
/-! ### slices of lists of ints -/
theorem take_min {α : Type} (xs : List α) (k : Nat) : xs.take (min k xs.length) = xs.take k := by
  by_cases h : k ≤ xs.length
  · rw [Nat.min_eq_left h]
  · rw [Nat.min_eq_right (by omega), List.take_of_length_le (by omega), List.take_of_length_le (by omega)]
theorem drop_min {α : Type} (xs : List α) (k : Nat) : xs.drop (min k xs.length) = xs.drop k := by
  by_cases h : k ≤ xs.length
  · rw [Nat.min_eq_left h]
  · rw [Nat.min_eq_right (by omega), List.drop_of_length_le (by omega), List.drop_of_length_le (by omega)]
theorem sIx_pos (n d : Nat) {b : Int} (h : 0 ≤ b) : HT.sIx n d (some b) = min b.toNat n := by
  have := HT.sIx_nat n d b.toNat
  rwa [Int.toNat_of_nonneg h] at this
theorem cut_to {xs : List V} {b : Int} (h : 0 ≤ b) : cutV xs none (some b) = xs.take b.toNat := by
  unfold cutV
  rw [HT.sIx_none, sIx_pos _ _ h, Nat.sub_zero, List.drop_zero, take_min]
theorem cut_from {xs : List V} {a : Int} (h : 0 ≤ a) : cutV xs (some a) none = xs.drop a.toNat := by
  unfold cutV
  rw [HT.sIx_none, sIx_pos _ _ h, drop_min, List.take_of_length_le]
  rw [List.length_drop]; omega
section
variable {K : PySem.W.Frag} {H : Hp} {Q : VK} {a : Addr} {ns : List Int}
theorem i_slTo {b : Int} (h : SqL K H a (iL ns)) (hb : 0 ≤ b) (q : ∀ p, H p = none → Q (.ref p) (upd H p (.lst (iL (ns.take b.toNat))))) : rSlL K (.ref a) none (some b) H Q :=
  ⟨a, _, rfl, h, fun p hp => by rw [cut_to hb, ← List.map_take]; exact q p hp⟩
theorem i_slFrom {b : Int} (h : SqL K H a (iL ns)) (hb : 0 ≤ b) (q : ∀ p, H p = none → Q (.ref p) (upd H p (.lst (iL (ns.drop b.toNat))))) : rSlL K (.ref a) (some b) none H Q :=
  ⟨a, _, rfl, h, fun p hp => by rw [cut_from hb, ← List.map_drop]; exact q p hp⟩
end
end L2

set_option Elab.async false
set_option linter.all false
set_option maxRecDepth 100000
namespace L2
open PySem PySem.Spec PyProof.Rows

/-! ### an untracked list of ours is tracked from now on -/
theorem Inv.track {X : Cx} {pins : List (Addr × Obj)} {σ : St} {H : Hp} {s : Shared} {D : Addr} {o : HO} (I : Inv X pins σ H s) (hn : H D = none) (hL : D ≠ X.env.locals) (h1 : X.s₀.heap.objs.size ≤ D)
    (h2 : ∀ x c, X.env.cells.lookup x = some c → c ≠ D) (h3 : ∀ p ∈ X.pn ++ pins, p.1 ≠ D) (new : ObjOk X.prog X.w (upd H D o) s.heap D o) : Inv X pins σ (upd H D o) s := by
  have up : ∀ b u, H b = some u → upd H D o b = some u := fun b u e => by rw [upd_ne (ne_of_none e hn)]; exact e
  have un : ∀ b, b ≠ D → H b = none → upd H D o b = none := fun b hb e => by rw [upd_ne hb]; exact e
  refine ⟨I.ok, I.os, I.bare, ⟨I.base.keep, I.base.slot, fun b ob e n hx => un b (Nat.ne_of_lt (Nat.lt_of_lt_of_le (Heap.lt_size e) h1)) (I.base.free b ob e n hx), I.base.there, fun b xs e => up _ _ (I.base.tups b xs e), fun b ob u e => up _ _ (I.base.frzs b ob u e), fun b ps e => ?_⟩,
    I.loc, I.cell, un _ (Ne.symm hL) I.free, fun x c e => un _ (h2 x c e) (I.freeC x c e), fun p hp => ?_, fun b u e => ?_, I.len⟩
  · obtain ⟨m, e'⟩ := I.base.tbls b ps e
    exact ⟨m, up _ _ e'⟩
  · obtain ⟨e, n, r⟩ := I.pin p hp
    exact ⟨e, un _ (h3 p hp) n, r⟩
  · by_cases hb : b = D
    · subst hb
      rw [upd_same] at e
      cases e
      exact new
    · rw [upd_ne hb] at e
      exact (I.hok b u e).stay (fun _ _ _ q => q) (fun c q => up _ _ q) fun c xs q => up _ _ q

/-! ### the closure of a comprehension's block -/
def clOf (env : Env) : List (Str × NameKind) → List (Str × Addr) → List (Str × Addr)
  | [], acc => acc
  | (n, k) :: r, acc => clOf env r (if (k == .free) = true then (n, (env.cells.lookup n).getD 0) :: acc else acc)
theorem closure_go {env : Env} : ∀ (names : List (Str × NameKind)) (acc : List (Str × Addr)), (∀ y ∈ names, y.2 = .free → ∃ c, env.cells.lookup y.1 = some c) →
    (forIn names acc fun (x : Str × NameKind) (r : List (Str × Addr)) => match x with
      | (name, kind) => if (kind == .free) = true then do
          let a ← cellOf env name
          pure (ForInStep.yield ((name, a) :: r))
        else pure (ForInStep.yield r) : Sem (List (Str × Addr))) = pure (clOf env names acc)
  | [], acc, _ => rfl
  | (n, k) :: r, acc, h => by
    rw [List.forIn_cons, clOf]
    by_cases hk : (k == NameKind.free) = true
    · obtain ⟨c, hc⟩ := h (n, k) (List.mem_cons_self) (by simpa using hk)
      have hc' : env.cells.lookup n = some c := hc
      simp only [hk, if_true, cellOf, hc', Option.getD_some]
      exact closure_go r _ fun y hy => h y (List.mem_cons_of_mem _ hy)
    · simp only [hk, Bool.false_eq_true, if_false]
      exact closure_go r _ fun y hy => h y (List.mem_cons_of_mem _ hy)
theorem closure_eq {env : Env} {scope : Scope} (h : ∀ y ∈ scope.names, y.2 = .free → ∃ c, env.cells.lookup y.1 = some c) : closureFor scope env = pure (clOf env scope.names []) := by
  have q := closure_go scope.names [] h
  unfold closureFor
  exact (congrArg (fun z => z >>= fun r => pure r) q).trans rfl
theorem clOf_get {env : Env} {x : Str} {c : Addr} : ∀ (names : List (Str × NameKind)) (acc : List (Str × Addr)), (∀ y ∈ names, y.2 = .free → ∃ c, env.cells.lookup y.1 = some c) → (∀ x c, acc.lookup x = some c → env.cells.lookup x = some c) →
    (clOf env names acc).lookup x = some c → env.cells.lookup x = some c
  | [], acc, _, ha, e => ha x c e
  | (n, k) :: r, acc, h, ha, e => by
    rw [clOf] at e
    refine clOf_get r _ (fun y hy => h y (List.mem_cons_of_mem _ hy)) ?_ e
    intro y d hd
    by_cases hk : (k == NameKind.free) = true
    · rw [if_pos hk] at hd
      obtain ⟨c', hc⟩ := h (n, k) List.mem_cons_self (by simpa using hk)
      have hc' : env.cells.lookup n = some c' := hc
      rw [List.lookup_cons] at hd
      cases hy : y == n with
      | true =>
        rw [hy] at hd
        have e1 : y = n := by simpa using hy
        subst e1
        rw [hc'] at hd ⊢
        exact hd
      | false =>
        rw [hy] at hd
        exact ha y d hd
    · rw [if_neg hk] at hd
      exact ha y d hd
theorem clOf_has {env : Env} {x : Str} : ∀ (names : List (Str × NameKind)) (acc : List (Str × Addr)), ((x, NameKind.free) ∈ names ∨ ∃ c, acc.lookup x = some c) → ∃ c, (clOf env names acc).lookup x = some c
  | [], acc, h => by
    rcases h with h | h
    · exact absurd h (by simp)
    · exact h
  | (n, k) :: r, acc, h => by
    rw [clOf]
    refine clOf_has r _ ?_
    rcases h with h | ⟨c, h⟩
    · rcases List.mem_cons.mp h with e | e
      · cases e
        exact .inr ⟨_, by rw [if_pos (by rfl), List.lookup_cons, beq_self_eq_true]⟩
      · exact .inl e
    · refine .inr ?_
      by_cases hk : (k == NameKind.free) = true
      · rw [if_pos hk, List.lookup_cons]
        cases x == n with
        | true => exact ⟨_, rfl⟩
        | false => exact ⟨c, h⟩
      · rw [if_neg hk]; exact ⟨c, h⟩
/-- what a relabelled scope says of a name -/
theorem relabel_get {scope : Scope} {env : Env} {x : Str} {k : NameKind} (h : (relabel scope env).names.lookup x = some k) : (x, k) ∈ scope.names ∨ (k = .cell ∧ (x, NameKind.free) ∈ scope.names) := by
  have m := PySem.mem_of_lookup h
  unfold relabel at m
  obtain ⟨⟨n, k0⟩, hm, e⟩ := List.mem_map.mp m
  dsimp only at e
  split at e
  · rename_i hc
    cases e
    have : k0 = .free := by
      have := (Bool.and_eq_true _ _ ▸ (Bool.and_eq_true _ _ ▸ hc).1 : _ ∧ _).1
      simpa using this
    subst this
    exact .inr ⟨rfl, hm⟩
  · cases e
    exact .inl hm

theorem relabel_freeN {env : Env} : ∀ {names : List (Str × NameKind)} {x : Str}, names.lookup x = some .free →
    (names.map fun (n, k) => if (k == NameKind.free && env.scope.kind == .function && env.kindOf n == some .cell) then (n, NameKind.cell) else (n, k)).lookup x = some .cell ∨
    (names.map fun (n, k) => if (k == NameKind.free && env.scope.kind == .function && env.kindOf n == some .cell) then (n, NameKind.cell) else (n, k)).lookup x = some .free
  | [], _, h => by simp at h
  | (n, k) :: r, x, h => by
    have ih := @relabel_freeN env r x
    show List.lookup x ((if (k == NameKind.free && env.scope.kind == .function && env.kindOf n == some .cell) = true then (n, NameKind.cell) else (n, k)) :: _) = _ ∨ List.lookup x ((if (k == NameKind.free && env.scope.kind == .function && env.kindOf n == some .cell) = true then (n, NameKind.cell) else (n, k)) :: _) = _
    cases hx : x == n with
    | true =>
      simp only [List.lookup_cons, hx] at h
      cases h
      by_cases hc : (NameKind.free == NameKind.free && env.scope.kind == .function && env.kindOf n == some .cell) = true
      · rw [if_pos hc]; left; simp [List.lookup_cons, hx]
      · rw [if_neg hc]; right; simp [List.lookup_cons, hx]
    | false =>
      simp only [List.lookup_cons, hx] at h
      by_cases hc : (k == NameKind.free && env.scope.kind == .function && env.kindOf n == some .cell) = true
      · rw [if_pos hc]; simp only [List.lookup_cons, hx]; exact ih h
      · rw [if_neg hc]; simp only [List.lookup_cons, hx]; exact ih h
theorem relabel_free {scope : Scope} {env : Env} {x : Str} (h : scope.names.lookup x = some .free) : (relabel scope env).names.lookup x = some .cell ∨ (relabel scope env).names.lookup x = some .free := relabel_freeN h

/-! ### the block's context -/
def cxC (X : Cx) (scope : Scope) (C : Addr) (N : List Str) (s₂ : Shared) (H₂ : Hp) (ex : List Addr) : Cx :=
  { X with N := N, s₀ := s₂, H₀ := H₂, env := compEnvC scope (clOf X.env scope.names []) C X.env, outer := X.stack, stack := X.stack, ex := ex, fn := fun _ => false, pn := [], xe := fun _ _ => False }
/-- the names: a slot of the def's for each that is free in the block -/
def FrOk (X : Cx) (scope : Scope) : List Str → List (Option Nat) → Prop
  | [], [] => True
  | _ :: N, none :: fr => FrOk X scope N fr
  | x :: N, some j :: fr => (X.N[j]? = some x ∧ (X.env.kindOf x = some .cell ∨ X.env.kindOf x = some .free) ∧ scope.names.lookup x = some .free) ∧ FrOk X scope N fr
  | _, _ => False
def stC (fr : List (Option Nat)) (σ : St) : St := fr.map fun o => o.bind fun j => (σ[j]?).join
structure CompOk (X : Cx) (scope : Scope) (N : List Str) (fr : List (Option Nat)) : Prop where
  kind : scope.kind = .function
  ncell : ∀ y ∈ scope.names, y.2 ≠ .cell
  names : ∀ y ∈ scope.names, y.2 = .local → scope.names.lookup y.1 = some .local
  frees : ∀ y ∈ scope.names, y.2 = .free → X.env.kindOf y.1 = some .cell ∨ X.env.kindOf y.1 = some .free
  fr : FrOk X scope N fr
theorem FrOk.len {X : Cx} {scope : Scope} : ∀ {N : List Str} {fr : List (Option Nat)}, FrOk X scope N fr → fr.length = N.length
  | [], [], _ => rfl
  | _ :: N, none :: fr, h => by simp [FrOk.len (N := N) (fr := fr) h]
  | _ :: N, some j :: fr, h => by simp [FrOk.len (N := N) (fr := fr) h.2]
  | [], _ :: _, h => h.elim
  | _ :: _, [], h => h.elim
theorem FrOk.get {X : Cx} {scope : Scope} : ∀ {N : List Str} {fr : List (Option Nat)} {i j : Nat} {x : Str}, FrOk X scope N fr → N[i]? = some x → fr[i]? = some (some j) → X.N[j]? = some x ∧ (X.env.kindOf x = some .cell ∨ X.env.kindOf x = some .free) ∧ scope.names.lookup x = some .free
  | [], _, i, j, x, h, e, _ => by simp at e
  | y :: N, [], _, _, _, h, _, _ => h.elim
  | y :: N, none :: fr, 0, j, x, h, e, e2 => by simp at e2
  | y :: N, none :: fr, i + 1, j, x, h, e, e2 => FrOk.get (N := N) (fr := fr) (i := i) h (by simpa using e) (by simpa using e2)
  | y :: N, some k :: fr, 0, j, x, h, e, e2 => by
    simp at e e2
    subst e e2
    exact h.1
  | y :: N, some k :: fr, i + 1, j, x, h, e, e2 => FrOk.get (N := N) (fr := fr) (i := i) h.2 (by simpa using e) (by simpa using e2)
theorem stC_get {fr : List (Option Nat)} {σ : St} {i : Nat} {v : V} (h : (stC fr σ)[i]? = some (some v)) : ∃ j, fr[i]? = some (some j) ∧ σ[j]? = some (some v) := by
  unfold stC at h
  rw [List.getElem?_map] at h
  cases e : fr[i]? with
  | none => rw [e] at h; cases h
  | some o =>
    rw [e] at h
    cases o with
    | none => cases h
    | some j =>
      refine ⟨j, rfl, ?_⟩
      have h' : (σ[j]?).join = some v := by simpa using h
      cases e2 : σ[j]? with
      | none => rw [e2] at h'; cases h'
      | some w => rw [e2] at h'; cases w with
        | none => cases h'
        | some z => cases h'; rfl
section
variable {X : Cx} {scope : Scope} {N : List Str} {fr : List (Option Nat)}
theorem CompOk.cells (c : CompOk X scope N fr) (ok : X.Ok) : ∀ y ∈ scope.names, y.2 = .free → ∃ c, X.env.cells.lookup y.1 = some c := fun y hy e => ok.has y.1 (c.frees y hy e)
theorem CompOk.get (c : CompOk X scope N fr) (ok : X.Ok) {x : Str} {a : Addr} (h : (clOf X.env scope.names []).lookup x = some a) : X.env.cells.lookup x = some a :=
  clOf_get scope.names [] (c.cells ok) (fun _ _ z => by simp at z) h
theorem comp_ok {pins : List (Addr × Obj)} {σ : St} {H : Hp} {s₂ : Shared} {C : Addr} {fp : List Addr} (c : CompOk X scope N fr) (I : Inv X pins σ H s₂) (hC : s₂.heap.objs.size ≤ C) (hfp : ∀ b ∈ fp, FpOk X pins H b ∧ b < s₂.heap.objs.size) :
    (cxC X scope C N s₂ H fp).Ok where
  mod := I.ok.mod
  kind := c.kind
  glob := I.ok.glob
  blt := I.ok.blt
  above := hC
  inj := fun x y a h1 h2 => I.ok.inj x y a (c.get I.ok h1) (c.get I.ok h2)
  has := fun x h => by
    have hm : (x, NameKind.free) ∈ scope.names := by
      rcases h with h | h
      · rcases relabel_get h with z | ⟨_, z⟩
        · exact absurd rfl (c.ncell _ z)
        · exact z
      · rcases relabel_get h with z | ⟨z, _⟩
        · exact z
        · cases z
    exact clOf_has scope.names [] (.inl hm)
  cab := fun x a h => by cases h
  hd := I.ok.hd
  frames := I.ok.frames
  stk := .inl rfl
  exf := fun b hb => ⟨Nat.ne_of_lt (Nat.lt_of_lt_of_le (hfp b hb).2 hC), fun x a h => (hfp b hb).1.2.2.2.2.1 x a (c.get I.ok h)⟩
  bs := I.bs
  bsz := Nat.le_trans I.ok.bsz I.sz
  noex := fun b o e hb => by
    rcases (hfp b hb).1.2.2.2.1 with z | z
    · exact I.ok.noex b o e z
    · have h1 : b < X.base.objs.size := Heap.lt_size e
      have h2 := I.ok.bsz
      exact absurd (Nat.lt_of_lt_of_le h1 (Nat.le_trans h2 z)) (Nat.lt_irrefl _)
  exfs := fun b hb z => by
    rcases List.mem_cons.mp (I.stkSub b z) with e | e
    · exact (hfp b hb).1.2.1 e
    · exact (hfp b hb).1.2.2.1 e
  funs := I.stack
  frf := I.stkFree
theorem comp_inv {pins : List (Addr × Obj)} {σ : St} {H : Hp} {s₂ : Shared} {C : Addr} {fp : List Addr} {h₄ : Heap} {tk : Nat} (c : CompOk X scope N fr) (I : Inv X pins σ H s₂) (hC : s₂.heap.objs.size ≤ C) (hfp : ∀ b ∈ fp, FpOk X pins H b ∧ b < s₂.heap.objs.size)
    (hk : ∀ b o, s₂.heap.get? b = some o → h₄.get? b = some o) (hn : h₄.Ns C fun _ => none) : Inv (cxC X scope C N s₂ H fp) [] (stC fr σ) H { s₂ with heap := h₄, toks := tk } := by
  refine ⟨comp_ok c I hC hfp, rfl, I.bare, Un.kept hk, ⟨_, hn, fun i x v e1 e2 e3 => ?_⟩, fun x a e => ?_, I.hok.fresh hC, fun x a e => I.freeC x a (c.get I.ok e), fun p hp => absurd (show p ∈ ([] : List (Addr × Obj)) from hp) (by simp), I.hok.kept hk, ?_⟩
  · obtain ⟨j, f1, f2⟩ := stC_get e2
    obtain ⟨g1, g2, g3⟩ := c.fr.get e1 f1
    obtain ⟨m, hm, hl⟩ := I.loc
    have vis : Vis X.env.scope x := by
      rcases g2 with g | g
      · exact .inr (.inl g)
      · exact .inr (.inr g)
    obtain ⟨u, ru, lk⟩ := hl j x v g1 f2 vis
    refine ⟨u, ru, ?_⟩
    rcases lk with ⟨k, _⟩ | ⟨_, a, ea, o, ho, hd⟩
    · rcases g2 with g | g <;> (rw [k] at g; cases g)
    · obtain ⟨a', ea'⟩ := clOf_has (env := X.env) scope.names [] (.inl (PySem.mem_of_lookup g3))
      have e5 := c.get I.ok ea'
      rw [ea] at e5
      cases e5
      have kd : (cxC X scope C N s₂ H fp).env.kindOf x = some .cell ∨ (cxC X scope C N s₂ H fp).env.kindOf x = some .free := relabel_free g3
      exact .inr ⟨kd, a, ea', o, hk _ _ ho, hd⟩
  · obtain ⟨v, o, ho, hd⟩ := I.cell x a (c.get I.ok e)
    exact ⟨v, o, hk _ _ ho, hd⟩
  · unfold stC
    rw [List.length_map]
    exact c.fr.len
end

section
variable {prog : Program} {w : World} {A : Around} {E : Value → Shared → Prop} {R : Result → Shared → Prop} {s : Shared}
/-- a turn of the block's loop, whatever the target is -/
theorem compLoop_any {elt target iter : Expr} {ifs : List Expr} {scope : Scope} {pos : Pos} {it acc : Value} {env : Env} (I : Nat → Shared → Prop)
    (turn : ∀ n s, I n s → wpAny (model prog w) A (pyNext it) (fun r s₁ => match r with
      | none => R (.ok .next) s₁
      | some v => wpAny (model prog w) A (letOwnedTupleGo target it v) (fun _ s₀ => wpAny (model prog w) A (assign target env v) (fun _ s₂ =>
          wpAny (model prog w) A (forIn ifs true fun c r => if r = true then do let ok ← isTrue c env (eval c env); pure (ForInStep.yield ok) else pure (ForInStep.yield r)) (fun ok s₃ =>
            if ok = true then wpAny (model prog w) A (eval elt env) (fun x s₄ =>
              wpAny (model prog w) A (call (.builtin "list.append") [acc, x]) (fun _ s₅ => ∃ m, m < n ∧ I m s₅) (fun _ _ => False) s₄) (fun _ _ => False) s₃
            else ∃ m, m < n ∧ I m s₃) (fun _ _ => False) s₂) (fun _ _ => False) s₀) (fun _ _ => False) s₁) (fun _ _ => False) s)
    (n : Nat) (h : I n s) :
    codeAny (model prog w) A (.compLoop (.ListComp elt [⟨target, iter, ifs, 0⟩] scope pos) 0 it acc env) R s := by
  refine codeAny_loop rfl I (fun n s hI => ?_) n h
  show wpAny _ A ((compTurn (.ListComp elt [⟨target, iter, ifs, 0⟩] scope pos) 0 it acc env).onRaise (fun x => do noteFrame x env; theTreesLotGoes x)) _ _ s
  refine wpAny_noted ?_
  rw [compTurn_list]
  have nf : ∀ {α : Type} {m : Sem α} {Q : α → Shared → Prop} {F : Value → Shared → Prop} {s : Shared}, wpAny (model prog w) A m Q (fun _ _ => False) s → wpAny (model prog w) A m Q F s := fun h => wpAny_mono h (fun _ _ x => x) fun _ _ x => x.elim
  refine wpAny_bind (wpAny_standAt (wpAny_bind (wpAny_mono (nf (turn n s hI)) (fun r s₁ h₁ => ?_) fun _ _ h' => h')))
  cases r with
  | none => exact wpAny_pure h₁
  | some v =>
    refine wpAny_bind (wpAny_mono (nf h₁) (fun _ s₀ h₀ => ?_) fun _ _ h' => h')
    refine wpAny_bind (wpAny_mono (nf h₀) (fun _ s₂ h₂ => wpAny_bind (wpAny_mono (nf h₂) (fun ok s₃ h₃ => ?_) fun _ _ h' => h')) fun _ _ h' => h')
    cases ok with
    | false => exact wpAny_pure ⟨rfl, h₃⟩
    | true =>
      exact wpAny_bind (wpAny_bind (wpAny_mono (nf h₃) (fun x s₄ h₄ => wpAny_bind (wpAny_mono (nf h₄) (fun _ s₅ h₅ => wpAny_pure (wpAny_pure ⟨rfl, h₅⟩)) fun _ _ h' => h')) fun _ _ h' => h'))
end

/-! ### targets that leave the free names -/
def Wk (fr : List (Option Nat)) (σ σ2 : St) : Prop := σ2.length = σ.length ∧ ∀ (i j : Nat), fr[i]? = some (some j) → σ2[i]? = σ[i]?
theorem Wk.trans {fr : List (Option Nat)} {a b c : St} (h1 : Wk fr a b) (h2 : Wk fr b c) : Wk fr a c := ⟨h2.1.trans h1.1, fun i j e => (h2.2 i j e).trans (h1.2 i j e)⟩
def GW (fr : List (Option Nat)) (g : TG) : Prop := ∀ x σ H (Q Q' : St → Hp → Prop), (∀ σ2 H2, Wk fr σ σ2 → Q σ2 H2 → Q' σ2 H2) → g x σ H Q → g x σ H Q'
def GWs (fr : List (Option Nat)) (g : TGs) : Prop := ∀ x σ H (Q Q' : St → Hp → Prop), (∀ σ2 H2, Wk fr σ σ2 → Q σ2 H2 → Q' σ2 H2) → g x σ H Q → g x σ H Q'
theorem gw_name {fr : List (Option Nat)} {i : Nat} (h : fr[i]? = some none) : GW fr (gName i) := fun x σ H Q Q' k q => by
  refine k _ _ ⟨by simp, fun a j e => ?_⟩ q
  have : i ≠ a := fun z => by subst z; rw [h] at e; cases e
  rw [List.getElem?_set_ne this]
theorem gws_nil {fr : List (Option Nat)} : GWs fr gNil := fun x σ H Q Q' k q => ⟨q.1, k _ _ ⟨rfl, fun _ _ _ => rfl⟩ q.2⟩
theorem gws_cons {fr : List (Option Nat)} {t : TG} {u : TGs} (h1 : GW fr t) (h2 : GWs fr u) : GWs fr (gCons t u) := fun x σ H Q Q' k q => by
  obtain ⟨v, r, e, q⟩ := q
  exact ⟨v, r, e, h1 v σ H _ _ (fun σ' H' w1 q1 => h2 r σ' H' _ _ (fun σ2 H2 w2 q2 => k _ _ (w1.trans w2) q2) q1) q⟩
theorem gw_tup {fr : List (Option Nat)} {K : PySem.W.Frag} {n : Nat} {t : TGs} (h : GWs fr t) : GW fr (gTup K n t) := fun x σ H Q Q' k q => by
  obtain ⟨a, xs, e1, e2, e3, q⟩ := q
  exact ⟨a, xs, e1, e2, e3, h xs σ H _ _ k q⟩

/-! ### the tests -/
def PIfs (X : Cx) (ifs : List Expr) (t : TT) : Prop :=
  ∀ (pins : List (Addr × Obj)) (s : Shared) (σ : St) (H : Hp) (Q : Bool → Hp → Prop), Inv X pins σ H s → t σ H Q →
    wpAny (model X.prog X.w) X.A (forIn ifs true fun c r => if r = true then do let ok ← isTrue c X.env (eval c X.env); pure (ForInStep.yield ok) else pure (ForInStep.yield r)) (TP X pins σ Q) X.xe s
def tNoIf : TT := fun _ H Q => Q true H
theorem pifs_nil {X : Cx} : PIfs X [] tNoIf := fun _ _ _ H _ I h => wpAny_tests_nil ⟨H, I, h⟩
theorem pifs_one {X : Cx} {c : Expr} {t : TT} (h : PT X c t) : PIfs X [c] t := fun pins s σ H Q I q => wpAny_tests_one (h pins s σ H Q I q)

/-! ### the comprehension -/
def CompI (J : It) (g : TG) (ti : TT) (te : TE) (σc : St) (H1 : Hp) (Q : VK) : Prop := ∃ W : Nat → Nat → List V → Hp → Prop, (∃ m, W 0 m [] H1) ∧ ∀ i m ys H, W i m ys H → ys.length < sizeLine ∧
  ((J.stop i H ∧ ∀ l, H l = none → Q (.ref l) (upd H l (.lst ys))) ∨ (J.go i H ∧ ∃ M : List V → Hp → Prop, (∀ ys' H', M ys' H' → ∃ m', m' < m ∧ W (i + 1) m' ys' H') ∧
    ∀ x H', J.yld i H x H' → g x σc H' fun σ2 H2 => ti σ2 H2 fun b H3 => if b = true then te σ2 H3 fun y H4 => M (ys ++ [y]) H4 else M ys H3))
def tComp (fr : List (Option Nat)) (wi : TI) (g : TG) (ti : TT) (te : TE) : TE := fun σ H Q => wi σ H fun J H1 => CompI J g ti te (stC fr σ) H1 Q
structure Aside (X : Cx) (pins : List (Addr × Obj)) (H : Hp) (C : Addr) : Prop where
  fr : H C = none
  ne : C ≠ X.env.locals
  ab : X.s₀.heap.objs.size ≤ C
  cl : ∀ x c, X.env.cells.lookup x = some c → c ≠ C
  pn : ∀ p ∈ X.pn ++ pins, p.1 ≠ C
theorem Inv.aside {X : Cx} {pins : List (Addr × Obj)} {σ : St} {H H' : Hp} {s : Shared} {C : Addr} (I : Inv X pins σ H s) (hC : s.heap.objs.size ≤ C) (hn : H' C = none) : Aside X pins H' C := by
  obtain ⟨a, b, c, d, e, f⟩ := I.fpOk hC hn
  exact ⟨hn, b, Nat.le_trans I.sz hC, e, f⟩
def lob (us : List Value) (n : Nat) : Obj := { cls := .type "list", dict := none, data := .seq us.toArray n }
section
variable {X : Cx} {scope : Scope} {N : List Str} {fr : List (Option Nat)} {tg iter elt : Expr} {ifs : List Expr} {pos : Pos} {J : It} {g : TG} {ti : TT} {te : TE}
theorem comp_core {pins : List (Addr × Obj)} {σ : St} {H : Hp} {s₂ : Shared} {it : Addr} {fp : List Addr} {tn : Nat → Heap → Prop} {Q : VK} {E : Value → Shared → Prop} (c : CompOk X scope N fr) (hc : X.calm = true) (I : Inv X pins σ H s₂)
    (T : Turn X.prog X.w X.K tg J fp it tn) (st : tn 0 s₂.heap) (hfp : ∀ b ∈ fp, FpOk X pins H b)
    (hg : ∀ C, PG (cxC X scope C N s₂ H fp) tg g) (hi : ∀ C, PIfs (cxC X scope C N s₂ H fp) ifs ti) (he : ∀ C, PE (cxC X scope C N s₂ H fp) elt te) (gw : GW fr g) (hq : CompI J g ti te (stC fr σ) H Q)
    {RR : Value → Addr → Result → Shared → Prop}
    (hRR : ∀ D C H' ys s', Inv X pins σ (upd H' D (.lst ys)) s' → Aside X pins (upd H' D (.lst ys)) C → (∃ m, s'.heap.Ns C m) → Q (.ref D) (upd H' D (.lst ys)) → RR (.ref D) C (.ok .next) s') :
    wpAny (model X.prog X.w) X.A (newList []) (fun acc s₃ => wpAny (model X.prog X.w) X.A (newFunctionEnv scope X.env.globals (clOf X.env scope.names []) [] X.env.qual none .none (some X.env)) (fun cenv s₄ =>
      codeAny (model X.prog X.w) X.A (.compStart (.ListComp elt [⟨tg, iter, ifs, 0⟩] scope pos) 0 (.ref it) acc { cenv with scope := relabel scope X.env }) (RR acc cenv.locals) s₄) E s₃) E s₂ := by
  refine wpAny_newObj_type (wpAny_newFunctionEnv c.ncell (by intro y hy; simp at hy) (fun h₁ hns₁ hsb₁ => ?_) c.kind)
  dsimp only at hns₁ hsb₁ ⊢
  generalize hH2 : s₂.heap.push { cls := .type "list", dict := none, data := .seq ([] : List Value).toArray } = H2 at hns₁ hsb₁ ⊢
  have hC : H2.objs.size = s₂.heap.objs.size + 1 := by rw [← hH2, Heap.size_push]
  have hCle : s₂.heap.objs.size ≤ H2.objs.size := by rw [hC]; exact Nat.le_succ _
  have hDC : s₂.heap.objs.size ≠ H2.objs.size := by rw [hC]; exact Nat.ne_of_lt (Nat.lt_succ_self _)
  have old : ∀ b o, s₂.heap.get? b = some o → h₁.get? b = some o := fun b o e => hsb₁.extBut b o (by rw [hC]; exact Nat.ne_of_lt (Nat.lt_succ_of_lt (Heap.lt_size e))) (Heap.get?_push_of_some _ (hH2 ▸ Heap.get?_push_of_some _ e))
  have hacc : h₁.get? s₂.heap.objs.size = some (lob [] 0) := hsb₁.extBut _ _ hDC (Heap.get?_push_of_some _ (hH2 ▸ Heap.get?_push_size _ rfl))
  generalize hD : s₂.heap.objs.size = D at *
  generalize hCC : H2.objs.size = C at *
  have hfp2 : ∀ b ∈ fp, FpOk X pins H b ∧ b < s₂.heap.objs.size := fun b hb => ⟨hfp b hb, by obtain ⟨o, e, _⟩ := T.obj _ _ st b hb; exact Heap.lt_size e⟩
  have hns₂ : h₁.Ns C fun _ => none := hns₁
  have I0 : Inv (cxC X scope C N s₂ H fp) [] (stC fr σ) H { s₂ with heap := h₁, toks := s₂.toks + ([] : List (Str × Value)).length } := comp_inv c I (by rw [hD]; exact hCle) hfp2 old hns₂
  have st₁ : tn 0 h₁ := T.keep _ _ _ st fun b hb o e => old b o e
  have hDn : ∀ b ∈ fp, b ≠ D := fun b hb => by rw [← hD]; exact Nat.ne_of_lt (hfp2 b hb).2
  -- what is true of the list that grows
  have dAs : ∀ {H' : Hp}, H' D = none → (D ≠ (cxC X scope C N s₂ H fp).env.locals ∧ (cxC X scope C N s₂ H fp).s₀.heap.objs.size ≤ D ∧ ∀ x a, (cxC X scope C N s₂ H fp).env.cells.lookup x = some a → a ≠ D) := fun hn => ⟨hDC, Nat.le_of_eq hD, fun x a e z => by
    obtain ⟨v, o, ho, _⟩ := I.cell x a (c.get I.ok e)
    have := Heap.lt_size ho
    rw [z, ← hD] at this
    exact Nat.lt_irrefl _ this⟩
  obtain ⟨W, ⟨m0, w0⟩, turn⟩ := hq
  have loop : codeAny (model X.prog X.w) X.A (.compLoop (.ListComp elt [⟨tg, iter, ifs, 0⟩] scope pos) 0 (.ref it) (.ref D) (compEnvC scope (clOf X.env scope.names []) C X.env)) (RR (.ref D) C) { s₂ with heap := h₁, toks := s₂.toks + ([] : List (Str × Value)).length } := by
    refine compLoop_any (fun n s' => ∃ i ys us k H', Inv (cxC X scope C N s₂ H fp) [] (stC fr σ) H' s' ∧ tn i s'.heap ∧ (∀ b ∈ fp, H' b = none) ∧ s'.heap.get? D = some (lob us k) ∧ Vals ys us ∧ H' D = none ∧ W i n ys H') ?_ m0
      ⟨0, [], [], 0, H, I0, st₁, fun b hb => (hfp b hb).1, hacc, .nil, by rw [← hD]; exact I.hok.fresh (Nat.le_refl _), w0⟩
    rintro n s3 ⟨i, ys, us, k, H3, I3, st3, fr3, hD3, rv3, hDn3, w3⟩
    obtain ⟨hlen, alt⟩ := turn i n ys H3 w3
    obtain ⟨d1, d2, d3⟩ := dAs hDn3
    -- the list pinned
    have I3p : Inv (cxC X scope C N s₂ H fp) [(D, lob us k)] (stC fr σ) H3 s3 := I3.pins_of fun p hp => by
      have e : p = (D, lob us k) := by simpa using hp
      subst e
      refine ⟨hD3, hDn3, d1, fun z => ?_, fun v e => by cases (show Data.seq us.toArray k = Data.cell v from e)⟩
      have z' : D ∈ frs X.stack := z
      rcases List.mem_cons.mp (I.stkSub D z') with e | e
      · have := I.lt
        rw [← e, ← hD] at this
        exact Nat.lt_irrefl _ this
      · exact I.nofs (Nat.le_of_eq hD) e
    have stat : ∀ {H' : Hp}, (∀ b ∈ fp, H' b = none) → ∀ b ∈ fp, FpOk (cxC X scope C N s₂ H fp) [(D, lob us k)] H' b := fun hn b hb => by
      obtain ⟨q1, q2⟩ := hfp2 b hb
      refine ⟨hn b hb, Nat.ne_of_lt (Nat.lt_of_lt_of_le q2 (by rw [hD]; exact hCle)), fun z => ?_, .inl hb, fun x a e => q1.2.2.2.2.1 x a (c.get I.ok e), fun p hp => ?_⟩
      · exact (comp_ok c I (by rw [hD]; exact hCle) hfp2).exfs b hb z
      · have e : p = (D, lob us k) := by simpa [cxC] using hp
        subst e
        exact (hDn b hb).symm
    rcases alt with ⟨stop, qn⟩ | ⟨go, M, hM, step⟩
    · refine thn (T.done (cxC X scope C N s₂ H fp) rfl rfl rfl hc i _ s3 _ H3 _ I3p (stat fr3) st3 stop) fun r s4 ⟨hr, I4⟩ => ?_
      subst hr
      have pD := (I4.pin (D, lob us k) (by simp)).1
      have I4' : Inv (cxC X scope C N s₂ H fp) [] (stC fr σ) H3 s4 := I4.pins_of fun p hp => absurd hp (by simp)
      have IX : Inv X pins σ H3 s4 := I.call' I4'.os I4'.base I4'.hok I4'.bare fun b hb => by
        obtain ⟨q1, q2, q3, q4, q5, q6⟩ := hfp b hb
        exact ⟨q4, q2, q5, q6⟩
      have aD : Aside X pins H3 D := I.aside (Nat.le_of_eq hD) hDn3
      have IT : Inv X pins σ (upd H3 D (.lst ys)) s4 := IX.track hDn3 aD.ne aD.ab aD.cl aD.pn ⟨Nat.le_of_lt hlen, us, k, rv3, pD⟩
      refine hRR D C H3 ys s4 IT ?_ ?_ (qn D hDn3)
      · refine I.aside (by rw [hD]; exact hCle) ?_
        rw [upd_ne (Ne.symm hDC)]
        exact I4'.free
      · obtain ⟨m, hm, _⟩ := I4'.loc
        exact ⟨m, hm⟩
    · refine thn (T.item (cxC X scope C N s₂ H fp) rfl rfl rfl hc i _ s3 _ H3 _ I3p (stat fr3) st3 go) fun r s4 ⟨u, hr, h4⟩ => ?_
      subst hr
      refine thn h4 fun _ s5 ⟨x, H5, I5, r5, y5, st5, fr5⟩ => ?_
      have I5' := I5.pinned (stat fr5) (T.obj _ _ st5)
      refine thn (hg C _ s5 _ H5 x u _ I5' r5 (gw x _ H5 _ _ (fun σ2 H2 wk q => And.intro wk q) (step x H5 y5))) fun _ s6 ⟨σ6, H6, I6, wk6, q6⟩ => ?_
      refine thn (hi C _ s6 σ6 H6 _ I6 q6) fun ok s7 ⟨H7, I7, q7⟩ => ?_
      have back : ∀ {σ8 : St} {H8 : Hp} {s8 : Shared}, σ8 = σ6 → Inv (cxC X scope C N s₂ H fp) ([(D, lob us k)] ++ pinsAt fp s5.heap) σ8 H8 s8 → Inv (cxC X scope C N s₂ H fp) [] (stC fr σ) H8 s8 ∧ tn (i + 1) s8.heap ∧ (∀ b ∈ fp, H8 b = none) ∧ s8.heap.get? D = some (lob us k) ∧ H8 D = none := fun {σ8 H8 s8} e8 I8 => by
        subst e8
        have pf : ∀ b o, b ∈ fp → s5.heap.get? b = some o → s8.heap.get? b = some o ∧ H8 b = none := fun b o hb e => by
          have := I8.pin (b, o) (List.mem_append_right _ (List.mem_append_right _ (mem_pinsAt hb e)))
          exact ⟨this.1, this.2.1⟩
        refine ⟨(I8.pins_of (pins' := []) fun p hp => absurd hp (by simp)).weak wk6.1.symm fun a v e => ?_, T.keep _ _ _ st5 fun b hb o e => (pf b o hb e).1, fun b hb => ?_, (I8.pin (D, lob us k) (by simp)).1, (I8.pin (D, lob us k) (by simp)).2.1⟩
        · obtain ⟨j, f1, _⟩ := stC_get e
          rw [wk6.2 a j f1]
          exact e
        · obtain ⟨o, e, _⟩ := T.obj _ _ st5 b hb
          exact (pf b o hb e).2
      cases ok with
      | false =>
        obtain ⟨m', hm, w7⟩ := hM _ _ (by simpa using q7)
        obtain ⟨a1, a2, a3, a4, a5⟩ := back rfl I7
        exact ⟨m', hm, i + 1, ys, us, k, H7, a1, a2, a3, a4, rv3, a5, w7⟩
      | true =>
        have q7' : te σ6 H7 fun y H4 => M (ys ++ [y]) H4 := by simpa using q7
        refine thn (he C _ s7 σ6 H7 _ I7 q7') fun v s8 ⟨y, H8, I8, ry, q8⟩ => ?_
        obtain ⟨m', hm, w8⟩ := hM _ _ q8
        obtain ⟨a1, a2, a3, a4, a5⟩ := back rfl I8
        have hus : us.toArray.size ≤ sizeLine := by
          rw [List.size_toArray, ← rv3.length]
          exact Nat.le_of_lt hlen
        refine wpAny_list_append_plain (hsz := hus) (l := D) (items := us.toArray) ⟨_, a4⟩ fun h₅ hl₅ hs₅ => ?_
        obtain ⟨k', hl₅'⟩ := hl₅
        obtain ⟨e1, e2, e3⟩ := dAs a5
        refine ⟨m', hm, i + 1, ys ++ [y], us ++ [v], k', H8, a1.turned (t' := s8.toks) (fun b o hb e => (hs₅.2 b hb).trans e) a5 e1 (.inr e2) e3 (fun p hp => absurd (show p ∈ ([] : List (Addr × Obj)) from hp) (by simp)), T.keep _ _ _ a2 fun b hb o e => (hs₅.2 b (hDn b hb)).trans e, a3, ?_, rv3.append (.cons ry .nil), a5, w8⟩
        show h₅.get? D = _
        rw [hl₅']
        simp [lob]
  exact codeAny_compStart_list loop (T.self _ _ _ _ _ st₁ loop)

theorem pe_comp {wi : TI} (c : CompOk X scope N fr) (hc : X.calm = true) (hi : PI X tg iter wi) (hg : ∀ C s₂ H fp, PG (cxC X scope C N s₂ H fp) tg g) (hf : ∀ C s₂ H fp, PIfs (cxC X scope C N s₂ H fp) ifs ti) (he : ∀ C s₂ H fp, PE (cxC X scope C N s₂ H fp) elt te) (gw : GW fr g)
    (hs : ∀ x, foldedSetIterable iter X.env x = pure x := by intro _; rfl) : PE X (.ListComp elt [⟨tg, iter, ifs, 0⟩] scope pos) (tComp fr wi g ti te) := by
  intro pins s σ H Q I h
  rw [eval_ListComp]
  refine wpAny_comprehension_free (use := none) rfl hs (closure_eq (c.cells I.ok)) c.kind c.names (thn (hi pins s σ H _ I h) fun v s1 h1 => thn h1 fun itv s2 h2 => ?_)
  obtain ⟨it, fp, tn, J, H2, e, I2, T, st2, f2, q⟩ := h2
  subst e
  refine comp_core (RR := fun acc C => compPost (model X.prog X.w) X.A X.xe none (EP X pins σ Q) acc C) c hc I2 T st2 f2 (fun C => hg C _ _ _) (fun C => hf C _ _ _) (fun C => he C _ _ _) gw q ?_
  intro D C H' ys s' IT as hm q
  obtain ⟨m, hm⟩ := hm
  exact ⟨m, hm, fun h' sb => ⟨.ref D, _, IT.turned (t' := s'.toks) (fun b o hb e => (sb.2 b hb).trans e) as.fr as.ne (.inr as.ab) as.cl as.pn, rfl, q⟩⟩
theorem ps_setC {wi : TI} {i : Nat} {x : Str} {pos' spos : Pos} (hN : X.N.Nodup) (hn : X.N[i]? = some x) (hx : Loc X.env.scope x) (c : CompOk X scope N fr) (hc : X.calm = true) (hi : PI X tg iter wi) (hg : ∀ C s₂ H fp, PG (cxC X scope C N s₂ H fp) tg g) (hf : ∀ C s₂ H fp, PIfs (cxC X scope C N s₂ H fp) ifs ti) (he : ∀ C s₂ H fp, PE (cxC X scope C N s₂ H fp) elt te) (gw : GW fr g)
    (hsw : swapsWith (.ListComp elt [⟨tg, iter, ifs, 0⟩] scope pos) (some (.Name x pos')) spos.line X.env = pure true := by rfl) (hs : ∀ x, foldedSetIterable iter X.env x = pure x := by intro _; rfl)
    (hfl : X.fn x = true ∨ X.env.scope.names.lookup x = some .local := by first | exact .inl rfl | exact .inr rfl | assumption) :
    PS X (.Assign [.Name x pos'] (.ListComp elt [⟨tg, iter, ifs, 0⟩] scope pos) spos) (tAsg (tComp fr wi g ti te) (gName i)) := by
  intro pins s σ H Q I h
  rw [exec_Assign_Name_used _ _ _ _ hsw]
  refine wpAny_bind (wpAny_standAt (wpAny_bind ?_))
  show wpAny _ X.A (do let _ ← comprehension (.ListComp elt [⟨tg, iter, ifs, 0⟩] scope pos) scope X.env _ (newList []) false (eval iter X.env) (some (assign (.Name x pos') X.env))) _ _ s
  refine wpAny_bind (wpAny_mono (wpAny_comprehension_free (use := some (assign (.Name x pos') X.env)) (Q := fun _ s' => SP X pins Q .next s') rfl hs (closure_eq (c.cells I.ok)) c.kind c.names
    (thn (hi pins s σ H _ I h) fun v s1 h1 => thn h1 fun itv s2 h2 => ?_)) (fun _ s' hq => wpAny_pure (wpAny_pure hq)) fun _ _ e => e)
  obtain ⟨it, fp, tn, J, H2, e, I2, T, st2, f2, q⟩ := h2
  subst e
  refine comp_core (RR := fun acc C => compPost (model X.prog X.w) X.A X.xe (some (assign (.Name x pos') X.env)) (fun _ s' => SP X pins Q .next s') acc C) c hc I2 T st2 f2 (fun C => hg C _ _ _) (fun C => hf C _ _ _) (fun C => he C _ _ _) gw q ?_
  intro D C H' ys s' IT as hm q
  obtain ⟨m, hm⟩ := hm
  show wpAny _ X.A (assign (.Name x pos') X.env (.ref D)) _ _ _
  refine wpAny_assign_Name (store_ok2 IT hN hn hx (v := .ref D) rfl (fun s2 I3 hsb => ?_) hfl)
  obtain ⟨a, sb, ha⟩ := hsb
  have hne : C ≠ a := by
    rcases ha with ha | ha
    · rw [ha]; exact as.ne
    · exact (as.cl _ _ ha).symm
  refine ⟨m, hm.sameBut sb hne, fun h' sb' => ⟨_, _, I3.turned (t' := s2.toks) (fun b o hb e => (sb'.2 b hb).trans e) as.fr as.ne (.inr as.ab) as.cl as.pn, q⟩⟩
end
end L2

set_option Elab.async false
set_option linter.all false
set_option maxRecDepth 100000
namespace L2
open PySem PySem.Spec PyProof.Rows

/-- several untracked records of ours have turned -/
theorem Inv.turnedL {X : Cx} {pins : List (Addr × Obj)} {σ : St} {H : Hp} {s : Shared} {h' : Heap} {t' : Nat} {fp : List Addr} (I : Inv X pins σ H s) (hf : ∀ b ∈ fp, FpOk X pins H b) (k : ∀ b o, b ∉ fp → s.heap.get? b = some o → h'.get? b = some o) :
    Inv X pins σ H { s with heap := h', toks := t' } := by
  have nit : ∀ b u, H b = some u → b ∉ fp := fun b u e z => by rw [(hf b z).1] at e; cases e
  refine I.step (g' := s.gens) (d' := s.drawn) (ch := fp) (fun b hb => ?_) (fun b o _ _ hc e _ => k b o hc e) (fun b o _ _ hc e _ => ⟨o.slots, k b o hc e⟩) (fun _ _ _ _ n => n)
    (fun b o hc e => ⟨o, k b o hc e⟩) (fun _ _ e => e) (fun _ _ _ e => e) (fun b ps e => ⟨#[], by rw [e]; simp⟩) (fun m hm => ?_) (fun b u e => ?_) I.bare
  · obtain ⟨q1, q2, q3, q4, q5, q6⟩ := hf b hb
    exact ⟨q4, q2, q5, q6⟩
  · obtain ⟨o, es, ep, ho, r⟩ := hm
    exact ⟨o, es, ep, k _ o (fun z => (hf _ z).2.1 rfl) ho, r⟩
  · refine (I.hok b u e).stay (fun c v hc q => k c v ?_ q) (fun _ q => q) fun _ _ q => q
    rcases hc with z | z
    · rw [z]; exact nit b u e
    · exact nit c _ z
/-- .. and a tuple is new -/
theorem Inv.turnT {X : Cx} {pins : List (Addr × Obj)} {σ : St} {H : Hp} {s : Shared} {h' : Heap} {t' : Nat} {fp : List Addr} {T : Addr} {xs : List V} {its : List Value} (I : Inv X pins σ H s) (hf : ∀ b ∈ fp, FpOk X pins H b) (k : ∀ b o, b ∉ fp → s.heap.get? b = some o → h'.get? b = some o)
    (hT : s.heap.objs.size ≤ T) (hz : xs.length ≤ sizeLine) (r : Vals xs its) (it : IsTup h' T its.toArray) : Inv X pins σ (upd H T (.tup xs)) { s with heap := h', toks := t' } := by
  have hn : H T = none := I.hok.fresh hT
  have a := I.aside hT hn
  exact (I.turnedL (t' := t') hf k).track hn a.ne a.ab a.cl a.pn ⟨hz, its, r, it⟩

/-! ### zip of two lists -/
def Itz (K : PySem.W.Frag) (a b : Addr) : It :=
  ⟨fun i H => ∃ xs ys x y, SqL K H a xs ∧ SqL K H b ys ∧ xs[i]? = some x ∧ ys[i]? = some y,
   fun i H v H' => ∃ T x y, v = .ref T ∧ H T = none ∧ H' = upd H T (.tup [x, y]) ∧ (∀ xs, SqL K H a xs → xs[i]? = some x) ∧ ∀ ys, SqL K H b ys → ys[i]? = some y,
   fun i H => ∃ xs ys, SqL K H a xs ∧ SqL K H b ys ∧ (xs.length ≤ i ∨ ys.length ≤ i)⟩
def ZipSt (z TI TO i1 i2 a b : Addr) (i : Nat) (h : Heap) : Prop := IsZip h z TI TO .none ∧ IsPair h TI (.ref i1) (.ref i2) ∧ (∃ u v, IsPair h TO u v) ∧ h.IsListIter i1 a i ∧ h.IsListIter i2 b i
theorem turn_zip {P : Program} {w : World} {K : PySem.W.Frag} {elts : List Expr} {kk : Nat} {tp : Pos} {z TI TO i1 i2 a b : Addr} (D : ZipApart z TI TO i1 i2 a b) :
    Turn P w K (.Tuple elts kk tp) (Itz K a b) [z, TI, TO, i1, i2] z (ZipSt z TI TO i1 i2 a b) where
  mem := by simp
  obj := fun i h st c hc => by
    obtain ⟨h1, h2, ⟨u, v, h3⟩, ⟨o1, e1, _, d1⟩, ⟨o2, e2, _, d2⟩⟩ := st
    simp only [List.mem_cons, List.not_mem_nil, or_false] at hc
    rcases hc with rfl | rfl | rfl | rfl | rfl
    · exact ⟨_, h1, fun v z => by cases (show Data.fields _ = Data.cell v from z)⟩
    · exact ⟨_, h2, fun v z => by cases (show Data.seq _ _ = Data.cell v from z)⟩
    · exact ⟨_, h3, fun v z => by cases (show Data.seq _ _ = Data.cell v from z)⟩
    · exact ⟨_, e1, fun v z => by rw [d1] at z; cases z⟩
    · exact ⟨_, e2, fun v z => by rw [d2] at z; cases z⟩
  keep := fun i h h' st k => by
    obtain ⟨h1, h2, ⟨u, v, h3⟩, h4, h5⟩ := st
    exact ⟨k _ (by simp) _ h1, k _ (by simp) _ h2, ⟨u, v, k _ (by simp) _ h3⟩, h4.at fun o e => k _ (by simp) o e, h5.at fun o e => k _ (by simp) o e⟩
  item := by
    intro X hP hw hK hc i pins s σ H E I hf st hg
    subst hP hw hK
    obtain ⟨xs, ys, x, y, hx, hy, ex, ey⟩ := hg
    obtain ⟨h1, h2, ⟨u, v, h3⟩, h4, h5⟩ := st
    obtain ⟨its, rv, p, hz⟩ := I.list hx
    obtain ⟨jts, rw', q, hz'⟩ := I.list hy
    obtain ⟨ux, hux, rux⟩ := rv.get ex
    obtain ⟨uy, huy, ruy⟩ := rw'.get ey
    refine wpAny_pyNext_zip_item D h1 h2 h3 h4 h5 p.isList q.isList (x := ux) (y := uy) (by simpa using hux) (by simpa using huy) fun h' a1 a2 a3 a4 a5 a6 a7 => ?_
    have lt : ∀ c ∈ [z, TI, TO, i1, i2], c < s.heap.objs.size := fun c hc => by
      obtain ⟨o1, e1, _⟩ := h4
      obtain ⟨o2, e2, _⟩ := h5
      simp only [List.mem_cons, List.not_mem_nil, or_false] at hc
      rcases hc with rfl | rfl | rfl | rfl | rfl
      · exact Heap.lt_size h1
      · exact Heap.lt_size h2
      · exact Heap.lt_size h3
      · exact Heap.lt_size e1
      · exact Heap.lt_size e2
    have zT : z ≠ s.heap.objs.size := Nat.ne_of_lt (lt z (by simp))
    refine ⟨_, rfl, wpAny_letOwnedTupleGo_zip a1 fun h2' b1 b2 => ?_⟩
    have hk : ∀ c o, c ∉ [z, TI, TO, i1, i2] → s.heap.get? c = some o → h2'.get? c = some o := fun c o hc e => by
      simp only [List.mem_cons, List.not_mem_nil, or_false, not_or] at hc
      exact (b2.2 c hc.1).trans (a7 c o hc.1 hc.2.2.1 hc.2.2.2.1 hc.2.2.2.2 e)
    have I1 := I.turnT (h' := h2') (t' := s.toks) (T := s.heap.objs.size) (xs := [x, y]) (its := [ux, uy]) hf hk (Nat.le_refl _) (szl (Nat.le_of_ble_eq_true rfl)) (.cons rux (.cons ruy .nil)) ⟨_, (b2.2 _ zT.symm).trans a5, rfl, _, rfl⟩
    refine ⟨.ref s.heap.objs.size, _, I1, rfl, ⟨_, x, y, rfl, I.hok.fresh (Nat.le_refl _), rfl, fun xs' h => by rw [I.list_inj h hx]; exact ex, fun ys' h => by rw [I.list_inj h hy]; exact ey⟩, ?_, fun c hc => ?_⟩
    · exact ⟨b1, (b2.2 _ D.TIz).trans (a7 _ _ D.TIz D.TITO D.TIi1 D.TIi2 h2), ⟨_, _, (b2.2 _ D.TOz).trans a2⟩, a3.at fun o e => (b2.2 _ D.i1z).trans e, a4.at fun o e => (b2.2 _ D.i2z).trans e⟩
    · rw [upd_ne (Nat.ne_of_lt (lt c hc))]
      exact (hf c hc).1
  done := by
    intro X hP hw hK hc i pins s σ H E I hf st hg
    subst hP hw hK
    obtain ⟨xs, ys, hx, hy, hl⟩ := hg
    obtain ⟨h1, h2, ⟨u, v, h3⟩, h4, h5⟩ := st
    obtain ⟨its, rv, p, hz⟩ := I.list hx
    obtain ⟨jts, rw', q, hz'⟩ := I.list hy
    have l1 := rv.length
    have l2 := rw'.length
    refine wpAny_pyNext_zip_end (I.ok.hd hc) D h1 h2 h3 h4 h5 p.isList q.isList ?_ fun h' hk => ⟨rfl, ?_⟩
    · rcases hl with hl | hl
      · left; simp; omega
      · right; simp; omega
    · exact I.turnedL (t' := s.toks) hf fun c o hc e => by
        simp only [List.mem_cons, List.not_mem_nil, or_false, not_or] at hc
        exact hk c o hc.1 hc.2.2.1 hc.2.2.2.1 hc.2.2.2.2 e
  self := fun A i s Q E st h => wpAny_pyIter_zip st.1 h
def iZip2 (K : PySem.W.Frag) (ta : TA) : TI := fun σ H R => ta σ H fun vs H1 => ∃ a b, vs = [.ref a, .ref b] ∧ (∃ xs, SqL K H1 a xs) ∧ (∃ ys, SqL K H1 b ys) ∧ R (Itz K a b) H1
theorem bt_zip : bootBuiltins "zip" = some (.type "zip") := by first | exact PySem.boot_zip | exact PyProof.Rows.boot_zip
theorem bt_enumerate : bootBuiltins "enumerate" = some (.type "enumerate") := by first | exact PySem.boot_enumerate | exact PyProof.Rows.boot_enumerate
section
variable {X : Cx} {elts : List Expr} {kk : Nat} {tp : Pos}
theorem pi_zip2 {a b : Expr} {ta : TA} {p pos : Pos} (hg : Gl X "zip") (hm : X.mg "zip" = none) (ha : PA X [a, b] ta) (hs : starEach [a, b] X.env = [(false, eval a X.env), (false, eval b X.env)] := by rfl) (hs2 : starEach [b] X.env = [(false, eval b X.env)] := by rfl) :
    PI X (.Tuple elts kk tp) (.Call (.Name "zip" p) [a, b] [] pos) (iZip2 X.K ta) := by
  intro pins s σ H R I h
  refine Call_ (ld_blt I hg hm bt_zip (PyProof.Rows.callWith_type1 (thn (ha pos pins s σ H _ I h) fun us s1 ⟨vs, H1, I1, r1, q1⟩ => ?_) (by rw [hs, hs2]) (by rw [hs2]; rfl)))
  obtain ⟨x, y, e, ⟨xs, hx⟩, ⟨ys, hy⟩, q⟩ := q1
  subst e
  cases r1 with
  | cons r rr =>
    cases rr with
    | cons r' rr =>
      cases rr
      obtain ⟨its, rv, pl, hz⟩ := I1.list hx
      obtain ⟨jts, rw', ql, hz'⟩ := I1.list hy
      cases r
      cases r'
      have a1 : x < s1.heap.objs.size := by obtain ⟨_, e, _⟩ := pl.isList; exact Heap.lt_size e
      have a2 : y < s1.heap.objs.size := by obtain ⟨_, e, _⟩ := ql.isList; exact Heap.lt_size e
      refine call_zip_2 pl.isList ql.isList fun h' b1 b2 b3 b4 b5 b6 b7 => ?_
      have I2 : Inv X pins σ H1 { s1 with heap := h' } := I1.kept (t' := s1.toks) b7
      refine wpAny_pyIter_zip (s := { s1 with heap := h' }) b1 ⟨_, _, _, _, H1, rfl, I2, turn_zip (zipApart_new a1 a2), ⟨b1, b2, ⟨_, _, b3⟩, b4, b5⟩, fun c hc => ?_, q⟩
      have hc' : s1.heap.objs.size ≤ c := by
        simp only [List.mem_cons, List.not_mem_nil, or_false] at hc
        rcases hc with rfl | rfl | rfl | rfl | rfl
        · exact Nat.le_add_right _ _
        · exact Nat.le_add_right _ _
        · exact Nat.le_add_right _ _
        · exact Nat.le_refl _
        · exact Nat.le_add_right _ _
      exact I1.fpOk hc' (I1.hok.fresh hc')
end

/-! ### enumerate of a list -/
def Ite (K : PySem.W.Frag) (a : Addr) : It :=
  ⟨fun i H => ∃ xs x, SqL K H a xs ∧ xs[i]? = some x,
   fun i H v H' => ∃ T x, v = .ref T ∧ H T = none ∧ H' = upd H T (.tup [.int i, x]) ∧ (∀ xs, SqL K H a xs → xs[i]? = some x),
   fun i H => ∃ xs, SqL K H a xs ∧ xs.length ≤ i⟩
theorem turn_enum {P : Program} {w : World} {K : PySem.W.Frag} {elts : List Expr} {kk : Nat} {tp : Pos} {e it a : Addr} (hei : e ≠ it) :
    Turn P w K (.Tuple elts kk tp) (Ite K a) [e, it] e (fun i h => (∃ old, IsEnum h e it i old) ∧ h.IsListIter it a i) where
  mem := by simp
  obj := fun i h st c hc => by
    obtain ⟨⟨old, h1⟩, ⟨o1, e1, _, d1⟩⟩ := st
    simp only [List.mem_cons, List.not_mem_nil, or_false] at hc
    rcases hc with rfl | rfl
    · exact ⟨_, h1, fun v z => by cases (show Data.fields _ = Data.cell v from z)⟩
    · exact ⟨_, e1, fun v z => by rw [d1] at z; cases z⟩
  keep := fun i h h' st k => by
    obtain ⟨⟨old, h1⟩, h2⟩ := st
    exact ⟨⟨old, k _ (by simp) _ h1⟩, h2.at fun o e => k _ (by simp) o e⟩
  item := by
    intro X hP hw hK hc i pins s σ H E I hf st hg
    subst hP hw hK
    obtain ⟨xs, x, hx, ex⟩ := hg
    obtain ⟨⟨old, h1⟩, h2⟩ := st
    obtain ⟨its, rv, p, hz⟩ := I.list hx
    obtain ⟨ux, hux, rux⟩ := rv.get ex
    refine wpAny_pyNext_enum_item h1 h2 p.isList (x := ux) (by simpa using hux) hei fun h' a1 a2 a3 a4 a5 => ?_
    have lt : ∀ c ∈ [e, it], c < s.heap.objs.size := fun c hc => by
      obtain ⟨o1, e1, _⟩ := h2
      simp only [List.mem_cons, List.not_mem_nil, or_false] at hc
      rcases hc with rfl | rfl
      · exact Heap.lt_size h1
      · exact Heap.lt_size e1
    have eT : e ≠ s.heap.objs.size := Nat.ne_of_lt (lt e (by simp))
    refine ⟨_, rfl, wpAny_letOwnedTupleGo_enum (s := { s with heap := h', toks := s.toks + 1 }) a1 fun h2' b1 b2 => ?_⟩
    have hk : ∀ c o, c ∉ [e, it] → s.heap.get? c = some o → h2'.get? c = some o := fun c o hc q => by
      simp only [List.mem_cons, List.not_mem_nil, or_false, not_or] at hc
      exact (b2.2 c hc.1).trans (a5 c o hc.1 hc.2 q)
    have I1 := I.turnT (h' := h2') (t' := s.toks + 1) (T := s.heap.objs.size) (xs := [.int i, x]) (its := [.int i s.toks, ux]) hf hk (Nat.le_refl _) (szl (Nat.le_of_ble_eq_true rfl)) (.cons ⟨_, rfl⟩ (.cons rux .nil)) ⟨_, (b2.2 _ eT.symm).trans a3, rfl, _, rfl⟩
    refine ⟨.ref s.heap.objs.size, _, I1, rfl, ⟨_, x, rfl, I.hok.fresh (Nat.le_refl _), rfl, fun xs' h => by rw [I.list_inj h hx]; exact ex⟩, ?_, fun c hc => ?_⟩
    · exact ⟨⟨ux, by simpa using b1⟩, a2.at fun o q => (b2.2 _ hei.symm).trans q⟩
    · rw [upd_ne (Nat.ne_of_lt (lt c hc))]
      exact (hf c hc).1
  done := by
    intro X hP hw hK hc i pins s σ H E I hf st hg
    subst hP hw hK
    obtain ⟨xs, hx, hl⟩ := hg
    obtain ⟨⟨old, h1⟩, h2⟩ := st
    obtain ⟨its, rv, p, hz⟩ := I.list hx
    have l1 := rv.length
    refine wpAny_pyNext_enum_end (I.ok.hd hc) h1 h2 p.isList (by simp; omega) fun h' hk => ⟨rfl, ?_⟩
    exact I.turnedL (t' := s.toks) hf fun c o hc q => by
        simp only [List.mem_cons, List.not_mem_nil, or_false, not_or] at hc
        exact hk c o hc.2 q
  self := fun A i s Q E st h => by
    obtain ⟨⟨old, h1⟩, _⟩ := st
    exact wpAny_pyIter_enum h1 h
def iEnum (K : PySem.W.Frag) (ta : TA) : TI := fun σ H R => ta σ H fun vs H1 => ∃ a, vs = [.ref a] ∧ (∃ xs, H1 a = some (.lst xs)) ∧ R (Ite K a) H1
section
variable {X : Cx} {elts : List Expr} {kk : Nat} {tp : Pos}
theorem pi_enumerate1 {a : Expr} {ta : TA} {p pos : Pos} (hg : Gl X "enumerate") (hm : X.mg "enumerate" = none) (ha : PA X [a] ta) (hs : starEach [a] X.env = [(false, eval a X.env)] := by rfl) :
    PI X (.Tuple elts kk tp) (.Call (.Name "enumerate" p) [a] [] pos) (iEnum X.K ta) := by
  intro pins s σ H R I h
  refine Call_ (ld_blt I hg hm bt_enumerate (PyProof.Rows.callWith_type1 (thn (ha pos pins s σ H _ I h) fun us s1 ⟨vs, H1, I1, r1, q1⟩ => ?_) hs rfl))
  obtain ⟨x, e, ⟨xs, hx⟩, q⟩ := q1
  subst e
  cases r1 with
  | cons r rr =>
    cases rr
    cases r
    obtain ⟨hz, its, n, rv, hg⟩ := (show ObjOk X.prog X.w H1 s1.heap x (.lst xs) from I1.hok x _ hx)
    refine call_enumerate_1 hg fun h' b1 b2 b3 b4 => ?_
    have I2 : Inv X pins σ H1 { s1 with heap := h' } := I1.kept (t' := s1.toks) b4
    refine wpAny_pyIter_enum (s := { s1 with heap := h' }) b1 ⟨_, _, _, _, H1, rfl, I2, turn_enum (Nat.ne_of_gt (Nat.lt_succ_self _)), ⟨⟨_, b1⟩, b2⟩, fun c hc => ?_, q⟩
    have hc' : s1.heap.objs.size ≤ c := by
      simp only [List.mem_cons, List.not_mem_nil, or_false] at hc
      rcases hc with rfl | rfl
      · exact Nat.le_add_right _ _
      · exact Nat.le_refl _
    exact I1.fpOk hc' (I1.hok.fresh hc')
end
end L2

set_option Elab.async false
set_option linter.all false
set_option maxRecDepth 100000
namespace L2
open PySem PySem.Spec PyProof.Rows
section
variable {prog : Program} {w : World} {A : Around} {E : Value → Shared → Prop} {s : Shared}
theorem min_raw {l : Addr} {vs : List Value} {ns : List Int} {Q : Value → Shared → Prop} (hh : A.handled = none) (hl : s.heap.IsList l vs.toArray) (hi : IntsAre vs ns) (hne : 0 < ns.length)
    (h : ∀ h' M (t : Tok) tk, (∀ b o, s.heap.get? b = some o → h'.get? b = some o) → M ∈ ns → (∀ a, a ∈ ns → M ≤ a) → Q (.int M t) { s with heap := h', toks := tk }) : wpAny (model prog w) A (call (.builtin "min") [.ref l]) Q E s := by
  obtain ⟨xs, e⟩ := hi.allInts.items
  have hns : ns = xs.toList.map (·.1) := by
    rw [← hi.numsOf, ← nums_intItems, ← e]
  have hsz : 0 < xs.size := by
    have h3 := hne; rw [hns, List.length_map, Array.length_toList] at h3; exact h3
  rw [e] at hl
  refine min_intList hh hl hsz fun v h' tk hv hk => ?_
  obtain ⟨t, rfl⟩ := intItems_at hv
  obtain ⟨h1, h2⟩ := argBest_lt (numAt xs) (xs.size - 1)
  refine h _ _ t tk hk ?_ fun a ha => ?_
  · rw [hns, numAt_eq]; exact PySem.getD_mem (by rw [List.length_map, Array.length_toList]; omega)
  · rw [hns] at ha
    obtain ⟨j, hj, rfl⟩ := mem_getD ha
    rw [List.length_map, Array.length_toList] at hj
    rw [← numAt_eq]; exact h2 j (by omega)
theorem sum_raw {l : Addr} {vs : List Value} {ns : List Int} {Q : Value → Shared → Prop} (hh : A.handled = none) (hl : s.heap.IsList l vs.toArray) (hi : IntsAre vs ns)
    (h : ∀ h' tk t', (∀ b o, s.heap.get? b = some o → h'.get? b = some o) → Q (.int ns.sum t') { s with heap := h', toks := tk }) : wpAny (model prog w) A (call (.builtin "sum") [.ref l]) Q E s := by
  obtain ⟨xs, hx⟩ := hi.allInts.items
  have hl' : s.heap.IsList l (intItems xs) := hx ▸ hl
  refine sum_intListG hh hl' fun h' tk t' hk => ?_
  have e1 : ns = xs.toList.map (·.1) := by
    rw [← nums_intItems, ← hx]
    exact (show numsOf vs.toArray.toList = ns from hi.numsOf).symm
  have e2 : preSum (numAt xs) xs.size = ns.sum := by
    rw [preSum_eq, List.take_of_length_le (by simp), e1]
  rw [e2]
  exact h h' tk t' hk
end
def rSum (K : PySem.W.Frag) : List V → Hp → VK → Prop := fun xs H Q => ∃ p ns, xs = [.ref p] ∧ SqL K H p (iL ns) ∧ Q (.int ns.sum) H
def rMin (K : PySem.W.Frag) : List V → Hp → VK → Prop := fun xs H Q => (∃ i j, xs = [.int i, .int j] ∧ Q (.int (if j < i then j else i)) H) ∨ ∃ p ns, xs = [.ref p] ∧ SqL K H p (iL ns) ∧ 0 < ns.length ∧ ∀ m, m ∈ ns → (∀ a ∈ ns, m ≤ a) → Q (.int m) H
def rMax (K : PySem.W.Frag) : List V → Hp → VK → Prop := fun xs H Q => (∃ i j, xs = [.int i, .int j] ∧ Q (.int (if j > i then j else i)) H) ∨ ∃ p ns, xs = [.ref p] ∧ SqL K H p (iL ns) ∧ 0 < ns.length ∧ ∀ m, m ∈ ns → (∀ a ∈ ns, a ≤ m) → Q (.int m) H
def rSorted (K : PySem.W.Frag) : List V → Hp → VK → Prop := fun xs H Q => ∃ p ns, xs = [.ref p] ∧ SqL K H p (iL ns) ∧ ns.length < 64 ∧ ∀ l ms, H l = none → ms.Perm ns → ms.Pairwise (· ≤ ·) → Q (.ref l) (upd H l (.lst (iL ms)))
section
variable {X : Cx}
theorem call_sumN (hc : X.calm = true) : CallR X (.builtin "sum") (rSum X.K) := by
  intro pins s σ H xs us Q I r h
  obtain ⟨p, ns, rfl, hq, q⟩ := h
  obtain ⟨u, rfl, ru⟩ := vals1 r
  cases ru
  obtain ⟨its, rv, pl, hz⟩ := I.list hq
  exact sum_raw (I.ok.hd hc) pl.isList (intsAre_of rv) fun h' tk t' hk => ⟨.int _, H, I.kept (t' := tk) hk, ⟨_, rfl⟩, q⟩
theorem call_minN (hc : X.calm = true) : CallR X (.builtin "min") (rMin X.K) := by
  intro pins s σ H xs us Q I r h
  rcases h with h | ⟨p, ns, rfl, hq, hne, q⟩
  · exact call_min2 hc pins s σ H xs us Q I r h
  · obtain ⟨u, rfl, ru⟩ := vals1 r
    cases ru
    obtain ⟨its, rv, pl, hz⟩ := I.list hq
    exact min_raw (I.ok.hd hc) pl.isList (intsAre_of rv) hne fun h' M t tk hk h1 h2 => ⟨.int M, H, I.kept (t' := tk) hk, ⟨_, rfl⟩, q M h1 h2⟩
end
section
variable {K : PySem.W.Frag} {H : Hp} {Q : VK} {p : Addr} {ns : List Int} {i j : Int}
theorem i_sum (h : SqL K H p (iL ns)) (q : Q (.int ns.sum) H) : rSum K [.ref p] H Q := ⟨p, ns, rfl, h, q⟩
theorem i_minL (h : SqL K H p (iL ns)) (hn : 0 < ns.length) (q : ∀ m, m ∈ ns → (∀ a ∈ ns, m ≤ a) → Q (.int m) H) : rMin K [.ref p] H Q := .inr ⟨p, ns, rfl, h, hn, q⟩
end

/-! ### loops over zip, enumerate; comprehensions by an invariant -/
section
variable {K : PySem.W.Frag} {g : TG} {tb : TS} {D : Ends} {σ : St} {H : Hp}
/-- both lists of ints, as long as the shorter one -/
theorem lp_zip {a b : Addr} {xs ys : List V} (Pv : Nat → St → Hp → Prop) (h0 : Pv 0 σ H) (hl : ∀ i σ H, Pv i σ H → SqL K H a xs ∧ SqL K H b ys)
    (hs : ∀ i x y T σ H, xs[i]? = some x → ys[i]? = some y → Pv i σ H → H T = none → g (.ref T) σ (upd H T (.tup [x, y])) fun σ2 H2 => tb { D with nx := Pv (i + 1), ct := Pv (i + 1), bk := D.nx } σ2 H2)
    (hd : ∀ σ H, Pv (min xs.length ys.length) σ H → D.nx σ H) : LoopI (Itz K a b) g tb D σ H := by
  refine ⟨fun i m σ H => m = min xs.length ys.length - i ∧ i ≤ min xs.length ys.length ∧ Pv i σ H, ⟨_, rfl, Nat.zero_le _, h0⟩, ?_⟩
  rintro i m σ H ⟨rfl, hi, p⟩
  obtain ⟨q1, q2⟩ := hl i σ H p
  by_cases hlt : i < min xs.length ys.length
  · have l1 : i < xs.length := by omega
    have l2 : i < ys.length := by omega
    refine .inr ⟨⟨xs, ys, xs[i], ys[i], q1, q2, by simp [l1], by simp [l2]⟩, Pv (i + 1), fun σ' H' p' => ⟨_, by omega, rfl, hlt, p'⟩, fun x H' y => ?_⟩
    obtain ⟨T, x1, y1, rfl, hT, rfl, ex, ey⟩ := y
    exact hs i x1 y1 T σ H (ex xs q1) (ey ys q2) p hT
  · have e : i = min xs.length ys.length := by omega
    refine .inl ⟨⟨xs, ys, q1, q2, by omega⟩, hd σ H (by rw [← e]; exact p)⟩
theorem lp_enum {a : Addr} {xs : List V} (Pv : Nat → St → Hp → Prop) (h0 : Pv 0 σ H) (hl : ∀ i σ H, Pv i σ H → SqL K H a xs)
    (hs : ∀ i x T σ H, xs[i]? = some x → Pv i σ H → H T = none → g (.ref T) σ (upd H T (.tup [.int i, x])) fun σ2 H2 => tb { D with nx := Pv (i + 1), ct := Pv (i + 1), bk := D.nx } σ2 H2)
    (hd : ∀ σ H, Pv xs.length σ H → D.nx σ H) : LoopI (Ite K a) g tb D σ H := by
  refine ⟨fun i m σ H => m = xs.length - i ∧ i ≤ xs.length ∧ Pv i σ H, ⟨_, rfl, Nat.zero_le _, h0⟩, ?_⟩
  rintro i m σ H ⟨rfl, hi, p⟩
  have q1 := hl i σ H p
  by_cases hlt : i < xs.length
  · refine .inr ⟨⟨xs, xs[i], q1, by simp [hlt]⟩, Pv (i + 1), fun σ' H' p' => ⟨_, by omega, rfl, hlt, p'⟩, fun x H' y => ?_⟩
    obtain ⟨T, x1, rfl, hT, rfl, ex⟩ := y
    exact hs i x1 T σ H (ex xs q1) p hT
  · have e : i = xs.length := by omega
    refine .inl ⟨⟨xs, q1, by omega⟩, hd σ H (by rw [← e]; exact p)⟩
end
section
variable {K : PySem.W.Frag} {g : TG} {ti : TT} {te : TE} {σc : St} {H : Hp} {Q : VK}
theorem cp_list {a : Addr} {xs : List V} (Pv : Nat → List V → Hp → Prop) (h0 : Pv 0 [] H) (hl : ∀ i ys H, Pv i ys H → SqL K H a xs ∧ ys.length ≤ i) (hx : xs.length < sizeLine)
    (hs : ∀ i x ys H, xs[i]? = some x → Pv i ys H → g x σc H fun σ2 H2 => ti σ2 H2 fun b H3 => if b = true then te σ2 H3 fun y H4 => Pv (i + 1) (ys ++ [y]) H4 else Pv (i + 1) ys H3)
    (hd : ∀ l ys H, Pv xs.length ys H → H l = none → Q (.ref l) (upd H l (.lst ys))) : CompI (Itl K a) g ti te σc H Q := by
  refine ⟨fun i m ys H => m = xs.length - i ∧ i ≤ xs.length ∧ Pv i ys H, ⟨_, rfl, Nat.zero_le _, h0⟩, ?_⟩
  rintro i m ys H ⟨rfl, hi, p⟩
  obtain ⟨q, hy⟩ := hl i ys H p
  refine ⟨by omega, ?_⟩
  by_cases hlt : i < xs.length
  · refine .inr ⟨⟨xs, xs[i], q, by simp [hlt]⟩, Pv (i + 1), fun σ' H' p' => ⟨_, by omega, rfl, hlt, p'⟩, fun x H' y => ?_⟩
    obtain ⟨e, y⟩ := y
    subst e
    exact hs i x ys _ (y xs q) p
  · have e : i = xs.length := by omega
    subst e
    exact .inl ⟨⟨xs, q, Nat.le_refl _⟩, fun l hl => hd l ys H p hl⟩
theorem cp_zip {a b : Addr} {xs ys : List V} (Pv : Nat → List V → Hp → Prop) (h0 : Pv 0 [] H) (hl : ∀ i zs H, Pv i zs H → SqL K H a xs ∧ SqL K H b ys ∧ zs.length ≤ i) (hx : min xs.length ys.length < sizeLine)
    (hs : ∀ i x y T zs H, xs[i]? = some x → ys[i]? = some y → Pv i zs H → H T = none → g (.ref T) σc (upd H T (.tup [x, y])) fun σ2 H2 => ti σ2 H2 fun b H3 => if b = true then te σ2 H3 fun y H4 => Pv (i + 1) (zs ++ [y]) H4 else Pv (i + 1) zs H3)
    (hd : ∀ l zs H, Pv (min xs.length ys.length) zs H → H l = none → Q (.ref l) (upd H l (.lst zs))) : CompI (Itz K a b) g ti te σc H Q := by
  refine ⟨fun i m zs H => m = min xs.length ys.length - i ∧ i ≤ min xs.length ys.length ∧ Pv i zs H, ⟨_, rfl, Nat.zero_le _, h0⟩, ?_⟩
  rintro i m zs H ⟨rfl, hi, p⟩
  obtain ⟨q1, q2, hy⟩ := hl i zs H p
  refine ⟨by omega, ?_⟩
  by_cases hlt : i < min xs.length ys.length
  · have l1 : i < xs.length := by omega
    have l2 : i < ys.length := by omega
    refine .inr ⟨⟨xs, ys, xs[i], ys[i], q1, q2, by simp [l1], by simp [l2]⟩, Pv (i + 1), fun σ' H' p' => ⟨_, by omega, rfl, hlt, p'⟩, fun x H' y => ?_⟩
    obtain ⟨T, x1, y1, rfl, hT, rfl, ex, ey⟩ := y
    exact hs i x1 y1 T zs H (ex xs q1) (ey ys q2) p hT
  · have e : i = min xs.length ys.length := by omega
    exact .inl ⟨⟨xs, ys, q1, q2, by omega⟩, fun l hl => hd l zs H (by rw [← e]; exact p) hl⟩
end
end L2
namespace L2
open PySem PySem.Spec PyProof.Rows
theorem fr_nil {X : Cx} {sc : Scope} : FrOk X sc [] [] := trivial
theorem fr_none {X : Cx} {sc : Scope} {x : Str} {N : List Str} {fr : List (Option Nat)} (h : FrOk X sc N fr) : FrOk X sc (x :: N) (none :: fr) := h
theorem fr_some {X : Cx} {sc : Scope} {x : Str} {N : List Str} {fr : List (Option Nat)} {j : Nat} (h1 : X.N[j]? = some x) (h2 : X.env.kindOf x = some .cell ∨ X.env.kindOf x = some .free) (h3 : sc.names.lookup x = some .free) (h : FrOk X sc N fr) : FrOk X sc (x :: N) (some j :: fr) := ⟨⟨h1, h2, h3⟩, h⟩
theorem pe_globI {X : Cx} {x : Str} {n : Int} {pos : Pos} (h : ∃ t, X.mg x = some (.int n t)) (hg : Gl X x) (hd : (x == ("__debug__" : Str)) = false := by decide) : PE X (.Name x pos) (tC (.int n)) := by
  obtain ⟨t, h⟩ := h
  exact pe_glob hg h ⟨t, rfl⟩ hd
end L2
namespace L2
open PySem PySem.Spec PyProof.Rows
/-! ### the same rules with K said apart (a block's context hides it) -/
section
variable {X : Cx} (K : PySem.W.Frag) {tg l : Expr} {tl : TE} {pos p : Pos}
theorem op_eqK (hu : X.A.units + 64 < cLine) (hK : X.K = K := by rfl) : OpR X (compareOp .Eq) (rEqP K) := by subst hK; exact op_eqP hu
theorem op_neK (hu : X.A.units + 64 < cLine) (hK : X.K = K := by rfl) : OpR X (compareOp .NotEq) (rNeP K) := by subst hK; exact op_neP hu
theorem ix_K (hK : X.K = K := by rfl) : IxR X (rIxP K) := by subst hK; exact ix_P
theorem sl_listK (hK : X.K = K := by rfl) : SlR X (rSlL K) := by subst hK; exact sl_list
theorem call_lenK (hK : X.K = K := by rfl) : CallR X (.builtin "len") (rLen K) := by subst hK; exact call_lenN
theorem call_listK (hK : X.K = K := by rfl) : CallR X (.type "list") (rListOf K) := by subst hK; exact call_listN
theorem call_sumK (hc : X.calm = true := by rfl) (hK : X.K = K := by rfl) : CallR X (.builtin "sum") (rSum K) := by subst hK; exact call_sumN hc
theorem call_minK (hc : X.calm = true := by rfl) (hK : X.K = K := by rfl) : CallR X (.builtin "min") (rMin K) := by subst hK; exact call_minN hc
theorem call_intK : CallR X (.type "int") rIntOf := call_intN
theorem call_absK : CallR X (.builtin "abs") rAbs := call_absN
theorem pi_listK (hl : PE X l tl) (hK : X.K = K := by rfl) : PI X tg l (iList K tl) := by subst hK; exact pi_list hl
theorem pi_zip2K {elts : List Expr} {kk : Nat} {tp : Pos} {a b : Expr} {ta : TA} (hg : Gl X "zip") (hm : X.mg "zip" = none) (ha : PA X [a, b] ta) (hs : starEach [a, b] X.env = [(false, eval a X.env), (false, eval b X.env)] := by rfl) (hs2 : starEach [b] X.env = [(false, eval b X.env)] := by rfl) (hK : X.K = K := by rfl) :
    PI X (.Tuple elts kk tp) (.Call (.Name "zip" p) [a, b] [] pos) (iZip2 K ta) := by subst hK; exact pi_zip2 hg hm ha hs hs2
theorem pi_enumerate1K {elts : List Expr} {kk : Nat} {tp : Pos} {a : Expr} {ta : TA} (hg : Gl X "enumerate") (hm : X.mg "enumerate" = none) (ha : PA X [a] ta) (hs : starEach [a] X.env = [(false, eval a X.env)] := by rfl) (hK : X.K = K := by rfl) :
    PI X (.Tuple elts kk tp) (.Call (.Name "enumerate" p) [a] [] pos) (iEnum K ta) := by subst hK; exact pi_enumerate1 hg hm ha hs
theorem pg_tupK {es : List Expr} {k : Nat} {t : TGs} (n : Nat) (h : PGs X es t) (hc : X.calm = true := by rfl) (hn : (assignEach es X.env).length = n := by rfl) (hst : (assignEach es X.env).findIdx? (·.1) = none := by rfl) (hK : X.K = K := by rfl) : PG X (.Tuple es k pos) (gTup K n t) := by
  subst hK; exact pg_tup hc h hn hst
theorem pt_truthK {a : Expr} {ta : TE} (ha : PE X a ta) (he : ∀ whole, isTrue a X.env whole = (do let v ← whole; standAt a.pos; holding [v] (truthy v)) := by intro _; rfl) (hK : X.K = K := by rfl) : PT X a (tTru K ta) := by
  subst hK; exact pt_truthN ha he
theorem pe_bmK {o e : Expr} {es : List Expr} {to : TE} {t : TA} {name : Str} {apos cpos : Pos} {T id : String} {r : V → List V → Hp → VK → Prop} (pa : PlainAttrs T) (slot : Slot T name id) (hty : typeOf (.builtin id) = pure (.type "method_descriptor")) (hm : MtR X id r) (ho : PE X o to) (ha : PA X (e :: es) t)
    (hbase : attributeBase o name X.env (eval o X.env) = eval o X.env := by rfl)
    (hfew : ((backTo cpos (starEach (e :: es) X.env)).all (fun x => !x.1) && (backToKw cpos (keywordEach [] X.env)).all (fun x => x.1.isSome)
      && decide ((e :: es).length + ([] : List Keyword).length + (if ([] : List Keyword).isEmpty then 0 else 1) < 30)) = true := by rfl)
    (hline : (apos.endLine == cpos.line) = true := by rfl) (hs : starEach (e :: es) X.env = (false, eval e X.env) :: starEach es X.env := by rfl) (hplain : (backTo cpos (starEach es X.env)).any (·.1) = false := by rfl) (hK : X.K = K := by rfl) :
    PE X (.Call (.Attribute o name apos) (e :: es) [] cpos) (tBM K T r to t) := by
  subst hK; exact pe_bm pa slot hty hm ho ha hbase hfew hline hs hplain
end
end L2
namespace L2
open PySem PySem.Spec PyProof.Rows
section
variable {K : PySem.W.Frag} {H : Hp} {Q : VK} {n : Nat}
theorem pd_tup {t : Addr} {ds : List PyData} {xs : List V} (h : SqT K H t xs) (p : Paired (PdAt K H n) ds xs) : PdAt K H (n + 1) (.tuple ds) (.ref t) := ⟨t, xs, rfl, h, p⟩
theorem i_neSame {x y : V} (d : PyData) (hx : PdAt K H 9 d x) (hy : PdAt K H 9 d y) (q : Q (.bl false) H) : rNeP K x y H Q := ⟨d, d, hx, hy, by
  rw [PySem.SeqAt.eqv_refl d (pd_shape 9 d x hx).1]; exact q⟩
end
end L2
namespace L2
open PySem PySem.Spec PyProof.Rows
end L2


set_option Elab.async false
set_option linter.all false
set_option maxRecDepth 100000
namespace L2
open PySem PySem.Spec PyProof.Rows
/-- lo, lo - 1, .. (n of them) -/
def Itd (lo : Int) (n : Nat) : It := ⟨fun i _ => i < n, fun i H x H' => H' = H ∧ x = .int (lo - i), fun i _ => n ≤ i⟩
theorem turn_down {P : Program} {w : World} {K : PySem.W.Frag} {tg : Expr} (it : Addr) (lo : Int) (n : Nat) : Turn P w K tg (Itd lo n) [it] it (fun i h => IsRangeIter h it (lo + (i : Nat) * (-1)) ((n : Int) - (i : Nat)) (-1)) where
  mem := by simp
  obj := fun i h st b hb => by
    have e : b = it := by simpa using hb
    subst e
    exact ⟨_, st, fun v z => by
      have z' : Data.fields _ = Data.cell v := z
      cases z'⟩
  keep := fun i h h' st k => k it (by simp) _ st
  item := by
    intro X hP hw hK hc i pins s σ H E I hf st hg
    subst hP hw hK
    obtain ⟨f0, f1, f2, f3, f4, f5⟩ := hf it (by simp)
    have W := Walks.range (prog := X.prog) (w := X.w) (I.ok.hd hc) it lo (-1) n
    refine W.item i s _ _ hg st fun v h' tk hv st' kk => ?_
    obtain ⟨t, rfl⟩ := hv
    have I1 : Inv X pins σ H { s with heap := h', toks := tk } := I.turned (fun b o hb e => kk b o (by simpa using hb) e) f0 f1 f3 f4 f5
    refine ⟨_, rfl, go_of (s := { s with heap := h', toks := tk }) (n := "range_iterator") st' rfl rfl (by decide) ⟨.int (lo - i), H, I1, ⟨t, ?_⟩, ⟨rfl, rfl⟩, st', fun b hb => (hf b hb).1⟩⟩
    congr 1
    omega
  done := by
    intro X hP hw hK hc i pins s σ H E I hf st hg
    subst hP hw hK
    obtain ⟨f0, f1, f2, f3, f4, f5⟩ := hf it (by simp)
    exact wpAny_pyNext_range_end (I.ok.hd hc) st (by have : n ≤ i := hg; omega) fun h' eb => ⟨rfl, I.turned (t' := s.toks) (fun b o hb e => eb b o hb e) f0 f1 f3 f4 f5⟩
  self := fun _ _ _ _ _ st h => wpAny_pyIter_rangeiter st h
theorem rangeSize_down (a b : Int) : Builtin.Range.rangeSize a b (-1) = if a > b then a - b else 0 := by
  unfold Builtin.Range.rangeSize
  simp only [show ¬ ((-1 : Int) > 0) by decide, if_false, Int.neg_neg, Int.ediv_one]
  split <;> omega
theorem small_down {a b : Int} (ha : -(2 ^ 62) ≤ a) (ha' : a < 2 ^ 62) (hb : -(2 ^ 62) ≤ b) (hb' : b < 2 ^ 62) : Builtin.Range.small a b (-1) = true := by
  unfold Builtin.Range.small
  rw [rangeSize_down]
  simp only [Builtin.Range.rangeFitsLong, Bool.and_eq_true, Bool.or_eq_true, decide_eq_true_eq, beq_iff_eq, show ¬ ((-1 : Int) > 0) by decide, if_false]
  split <;> omega
section
variable {X : Cx} {tg : Expr}
theorem range_itd {pins : List (Addr × Obj)} {σ : St} {H : Hp} {s : Shared} {R : It → Hp → Prop} {E : Value → Shared → Prop} {lo hi : Int} {t u v : Tok} {tk : Nat} (I : Inv X pins σ H s) (h1 : -(2 ^ 62) ≤ lo) (h2 : lo < 2 ^ 62) (h3 : -(2 ^ 62) ≤ hi) (h4 : hi < 2 ^ 62)
    (q : R (Itd lo (lo - hi).toNat) H) : wpAny (model X.prog X.w) X.A (pyIter (.ref s.heap.objs.size)) (PIE X pins σ tg R) E { s with heap := s.heap.push { cls := .type "range", data := .fields #[.int lo t, .int hi u, .int (-1) v] }, toks := tk } := by
  refine wpAny_pyIter_range (IsRange.new ..) (small_down h1 h2 h3 h4) ?_
  have I1 : Inv X pins σ H { s with heap := s.heap.push { cls := .type "range", data := .fields #[.int lo t, .int hi u, .int (-1) v] }, toks := tk } := I.kept fun b o e => Heap.get?_push_of_some _ e
  refine ⟨(s.heap.push { cls := .type "range", data := .fields #[.int lo t, .int hi u, .int (-1) v] }).objs.size, [(s.heap.push { cls := .type "range", data := .fields #[.int lo t, .int hi u, .int (-1) v] }).objs.size], _, _, H, rfl,
    I1.kept (t' := tk) fun b o e => Heap.get?_push_of_some _ e, turn_down _ lo (lo - hi).toNat, ?_, fun b hb => ?_, q⟩
  · have e1 : lo + ((0 : Nat) : Int) * (-1) = lo := by simp
    have e2 : (((lo - hi).toNat : Nat) : Int) - ((0 : Nat) : Int) = Builtin.Range.rangeSize lo hi (-1) := by rw [rangeSize_down]; split <;> omega
    show IsRangeIter _ _ (lo + ((0 : Nat) : Int) * (-1)) ((((lo - hi).toNat : Nat) : Int) - ((0 : Nat) : Int)) (-1)
    rw [e1, e2]
    exact Heap.get?_push_size _ rfl
  · have e : b = (s.heap.push { cls := .type "range", data := .fields #[.int lo t, .int hi u, .int (-1) v] }).objs.size := by simpa using hb
    subst e
    exact I1.fpOk (Nat.le_refl _) (I1.hok.fresh (Nat.le_refl _))
def iRng3 (ta : TA) : TI := fun σ H R => ta σ H fun vs H1 => ∃ i j : Int, vs = [.int i, .int j, .int (-1)] ∧ (-(2 ^ 62) ≤ i ∧ i < 2 ^ 62 ∧ -(2 ^ 62) ≤ j ∧ j < 2 ^ 62) ∧ R (Itd i (i - j).toNat) H1
theorem pi_range3 {a b c : Expr} {ta : TA} {p pos : Pos} (hg : Gl X "range") (hm : X.mg "range" = none) (ha : PA X [a, b, c] ta) (hs : starEach [a, b, c] X.env = [(false, eval a X.env), (false, eval b X.env), (false, eval c X.env)] := by rfl) (hs2 : starEach [b, c] X.env = [(false, eval b X.env), (false, eval c X.env)] := by rfl) :
    PI X tg (.Call (.Name "range" p) [a, b, c] [] pos) (iRng3 ta) := by
  intro pins s σ H R I h
  refine Call_ (ld_blt I hg hm boot_range (PyProof.Rows.callWith_type1 (thn (ha pos pins s σ H _ I h) fun us s1 ⟨vs, H1, I1, r1, q1⟩ => ?_) (by rw [hs, hs2]) (by rw [hs2]; rfl)))
  obtain ⟨i, j, e, ⟨q1, q2, q3, q4⟩, q⟩ := q1
  subst e
  cases r1 with
  | cons r rr =>
    cases rr with
    | cons r' rr =>
      cases rr with
      | cons r'' rr =>
        cases rr
        obtain ⟨t, rfl⟩ := r
        obtain ⟨t', rfl⟩ := r'
        obtain ⟨t'', rfl⟩ := r''
        exact call_range_3 (by decide) (range_itd I1 q1 q2 q3 q4 q) (.inl (PyProof.noPylong_small (by omega)))
end
section
variable {K : PySem.W.Frag} {g : TG} {tb : TS} {D : Ends} {σ : St} {H : Hp}
theorem lp_down {lo : Int} {n : Nat} (Pv : Nat → St → Hp → Prop) (h0 : Pv 0 σ H)
    (hs : ∀ i σ H, i < n → Pv i σ H → g (.int (lo - i)) σ H fun σ2 H2 => tb { D with nx := Pv (i + 1), ct := Pv (i + 1), bk := D.nx } σ2 H2) (hd : ∀ σ H, Pv n σ H → D.nx σ H) : LoopI (Itd lo n) g tb D σ H := by
  refine ⟨fun i m σ H => m = n - i ∧ i ≤ n ∧ Pv i σ H, ⟨n, by simp, Nat.zero_le _, h0⟩, ?_⟩
  rintro i m σ H ⟨rfl, hi, p⟩
  by_cases hlt : i < n
  · refine .inr ⟨hlt, Pv (i + 1), fun σ' H' p' => ⟨n - (i + 1), by omega, rfl, hlt, p'⟩, fun x H' y => ?_⟩
    obtain ⟨e, y⟩ := y
    subst e y
    exact hs i σ _ hlt p
  · have e : i = n := by omega
    subst e
    exact .inl ⟨Nat.le_refl _, hd σ H p⟩
end
section
variable {X : Cx} (K : PySem.W.Frag)
/-- all of a list of truths -/
def rAll (K : PySem.W.Frag) : List V → Hp → VK → Prop := fun xs H Q => ∃ (p : Addr) (bs : List Bool), xs = [.ref p] ∧ SqL K H p (bs.map V.bl) ∧ Q (.bl (bs.all id)) H
/-- is, is not of truths -/
def rIsB (neg : Bool) : R2 := fun x y H Q => ∃ a b : Bool, x = .bl a ∧ y = .bl b ∧ Q (.bl (if neg then !decide (a = b) else decide (a = b))) H
theorem i_isB {a b : Bool} {H : Hp} {Q : VK} (q : Q (.bl (decide (a = b))) H) : rIsB false (.bl a) (.bl b) H Q := ⟨a, b, rfl, rfl, q⟩
theorem i_isNotB {a b : Bool} {H : Hp} {Q : VK} (q : Q (.bl (!decide (a = b))) H) : rIsB true (.bl a) (.bl b) H Q := ⟨a, b, rfl, rfl, q⟩
end
end L2

set_option Elab.async false
set_option linter.all false
namespace M
/-! ### wheels: plain mathematics -/
def drag (p a x : Int) : Int := if x < a - p then a - p else if a + p < x then a + p else x
theorem drag_mid {p a x : Int} (h0 : 0 ≤ p) : drag p a x - a ≤ p ∧ a - drag p a x ≤ p ∧ (p < x - a → drag p a x = a + p) ∧ (p < a - x → drag p a x = a - p) ∧ (¬ p < x - a → ¬ p < a - x → drag p a x = x) := by
  unfold drag
  split
  · omega
  · split <;> omega
def isTr (ps : List Int) : Prop := 1 ≤ ps.length ∧ ps.length ≤ 12 ∧ ∀ p ∈ ps, 0 ≤ p
def keeps : List Int → Int → List Int → Prop
  | p :: ps, a, x :: xs => (x - a ≤ p ∧ a - x ≤ p) ∧ keeps ps x xs
  | _, _, _ => True
def stand (ps : List Int) (a : Int) (xs : List Int) : Prop := xs.length = ps.length ∧ keeps ps a xs
def dragAll : List Int → List Int → Int → List Int
  | p :: ps, x :: xs, a => drag p a x :: dragAll ps xs (drag p a x)
  | _, _, _ => []
def lastOf : Int → List Int → Int
  | a, [] => a
  | _, x :: xs => lastOf x xs
theorem dropc {α : Type} {xs : List α} {i : Nat} {x : α} (h : xs[i]? = some x) : xs.drop i = x :: xs.drop (i + 1) := by
  obtain ⟨hl, e⟩ := List.getElem?_eq_some_iff.mp h
  rw [List.drop_eq_getElem_cons hl, e]
theorem lastOf_snoc (a x : Int) : ∀ xs : List Int, lastOf a (xs ++ [x]) = x := by
  intro xs
  induction xs generalizing a with
  | nil => rfl
  | cons y ys ih => exact ih y
theorem keeps_snoc {p x : Int} : ∀ (ps xs : List Int) (a : Int), ps.length = xs.length → keeps ps a xs → x - lastOf a xs ≤ p → lastOf a xs - x ≤ p → keeps (ps ++ [p]) a (xs ++ [x])
  | [], [], a, _, _, h1, h2 => ⟨⟨h1, h2⟩, trivial⟩
  | q :: ps, y :: ys, a, hl, h, h1, h2 => ⟨h.1, keeps_snoc ps ys y (by simpa using hl) h.2 h1 h2⟩
  | [], _ :: _, _, hl, _, _, _ => by simp at hl
  | _ :: _, [], _, hl, _, _, _ => by simp at hl
theorem dragAll_length : ∀ (ps xs : List Int) (a : Int), (dragAll ps xs a).length = min ps.length xs.length
  | [], xs, a => by simp [dragAll]
  | p :: ps, [], a => by simp [dragAll]
  | p :: ps, x :: xs, a => by simp [dragAll, dragAll_length ps xs]
theorem dragAll_keeps : ∀ (ps xs : List Int) (a : Int), (∀ p ∈ ps, 0 ≤ p) → keeps ps a (dragAll ps xs a)
  | [], xs, a, _ => trivial
  | p :: ps, [], a, _ => trivial
  | p :: ps, x :: xs, a, h => by
    have q := drag_mid (p := p) (a := a) (x := x) (h p (List.mem_cons_self))
    exact ⟨⟨q.1, q.2.1⟩, dragAll_keeps ps xs _ fun z hz => h z (List.mem_cons_of_mem _ hz)⟩
theorem dragAll_nil (xs : List Int) (a : Int) : dragAll [] xs a = [] := by simp [dragAll]
theorem dragAll_nil2 (ps : List Int) (a : Int) : dragAll ps [] a = [] := by cases ps <;> simp [dragAll]
/-! ### rows; wheels by themselves -/
def runs (ps : List Int) : List Int → List Int → List (List Int)
  | _, [] => []
  | ws, c :: row => dragAll ps ws c :: runs ps (dragAll ps ws c) row
def hung (d : Int) : Int → List Int → List Int
  | _, [] => []
  | x, c :: row => drag d c x :: hung d (drag d c x) row
def alone : Int → List Int → List Int → Int → List Int
  | d, p :: ps, x :: xs, a => drag (d + p) a x :: alone (d + p) ps xs a
  | _, _, _, _ => []
def depths : Int → List Int → List Int
  | _, [] => []
  | d, p :: ps => (d + p) :: depths (d + p) ps
theorem depths_length : ∀ (ps : List Int) (d : Int), (depths d ps).length = ps.length
  | [], _ => rfl
  | p :: ps, d => by simp [depths, depths_length ps]
theorem drag_drag {d p a x0 x : Int} (h0 : 0 ≤ d) (h1 : 0 ≤ p) (k1 : x - x0 ≤ p) (k2 : x0 - x ≤ p) : drag p (drag d a x0) x = drag (d + p) a x := by
  unfold drag
  repeat' split
  all_goals omega
theorem drag_zero (a x : Int) : drag 0 a x = a := by
  unfold drag
  repeat' split
  all_goals omega
theorem dragAll_alone : ∀ (ps xs : List Int) (d a x0 : Int), 0 ≤ d → (∀ p ∈ ps, 0 ≤ p) → keeps ps x0 xs → dragAll ps xs (drag d a x0) = alone d ps xs a
  | [], xs, d, a, x0, _, _, _ => by simp [dragAll, alone]
  | p :: ps, [], d, a, x0, _, _, _ => by simp [dragAll, alone]
  | p :: ps, x :: xs, d, a, x0, h0, hp, hk => by
    have hp0 := hp p List.mem_cons_self
    rw [dragAll, alone, drag_drag h0 hp0 hk.1.1 hk.1.2]
    rw [dragAll_alone ps xs (d + p) a x (by omega) (fun q hq => hp q (List.mem_cons_of_mem _ hq)) hk.2]
theorem dragAll_eq {ps xs : List Int} {a hd : Int} (hp : ∀ p ∈ ps, 0 ≤ p) (hk : keeps ps hd xs) : dragAll ps xs a = alone 0 ps xs a := by
  have := dragAll_alone ps xs 0 a hd (Int.le_refl 0) hp hk
  rwa [drag_zero] at this
theorem alone_get : ∀ (ps xs : List Int) (d a : Int) (k : Nat) (dk xk : Int), (depths d ps)[k]? = some dk → xs[k]? = some xk → (alone d ps xs a)[k]? = some (drag dk a xk)
  | [], xs, d, a, k, dk, xk, h, _ => by simp [depths] at h
  | p :: ps, [], d, a, k, dk, xk, _, h => by simp at h
  | p :: ps, x :: xs, d, a, 0, dk, xk, h1, h2 => by simp [depths] at h1; simp at h2; subst h1 h2; simp [alone]
  | p :: ps, x :: xs, d, a, k + 1, dk, xk, h1, h2 => by
    simp only [depths, List.getElem?_cons_succ] at h1 h2
    simp only [alone, List.getElem?_cons_succ]
    exact alone_get ps xs (d + p) a k dk xk h1 h2
/-! ### rows cut, rows filled -/
def endW (ps : List Int) : List Int → List Int → List Int
  | ws, [] => ws
  | ws, c :: row => endW ps (dragAll ps ws c) row
theorem endW_append (ps : List Int) : ∀ (r1 r2 ws : List Int), endW ps ws (r1 ++ r2) = endW ps (endW ps ws r1) r2
  | [], r2, ws => rfl
  | c :: r1, r2, ws => by simp only [List.cons_append, endW, endW_append ps r1 r2]
theorem endW_length {ps : List Int} : ∀ (row ws : List Int), ws.length = ps.length → (endW ps ws row).length = ps.length
  | [], ws, h => h
  | c :: row, ws, h => endW_length row _ (by rw [dragAll_length, h]; omega)
/-- places on the way, in order -/
def Path (a c : Int) : List Int → Prop
  | [] => True
  | s :: ss => ((a ≤ s ∧ s ≤ c) ∨ (c ≤ s ∧ s ≤ a)) ∧ Path s c ss
/-- a row, filled; the marks tell where the row's own places stand -/
def FillOk (a : Int) (row : List Int) (i : Nat) (fs ms : List Int) : Prop := ∀ ps ws : List Int, (∀ p ∈ ps, 0 ≤ p) → keeps ps a ws →
  endW ps ws fs = endW ps ws (row.take i) ∧ ∀ k : Nat, k < i → ∃ m : Nat, ms[k]? = some (m : Int) ∧ m < fs.length ∧ (runs ps ws fs)[m]? = (runs ps ws row)[k]?
def apps : Nat → List (List Int) → List (List Int)
  | _, [] => []
  | k, x :: xs => (x ++ [(k : Int)]) :: apps (k + 1) xs
theorem take_snoc_get {α : Type} {xs : List α} {j : Nat} {x : α} (h : xs[j]? = some x) : xs.take (j + 1) = xs.take j ++ [x] := by
  rw [List.take_add_one, h]; rfl
end M

set_option Elab.async false
set_option linter.all false
namespace M
/-! ### errands: pieces by their numbers, the handle -1 -/
def pc (xs : List Int) (h : Int) (w : Int) : Int := if w < 0 then h else xs.getD w.toNat 0
abbrev Fn := Int → Int
abbrev Must := Int × Int
def mp (D G : Fn) (m : Must) : Int := G m.1 + m.2 * D m.1
def bey (D G : Fn) (a : Must) (w : Int) : Prop := (mp D G a - G w) * a.2 > D w
instance (D G : Fn) (a : Must) (w : Int) : Decidable (bey D G a w) := inferInstanceAs (Decidable (_ > _))
def sgn (F G : Fn) (w : Int) : Int := if F w < G w then 1 else -1
def fm (F G : Fn) : Nat → List Must
  | 0 => if F (-1) = G (-1) then [] else [(-1, sgn F G (-1))]
  | k + 1 => if F k = G k then fm F G k else [((k : Int), sgn F G k)]
def rst (D G : Fn) : Nat → Must → List Must
  | 0, a => if bey D G a (-1) then [(-1, -a.2)] else []
  | k + 1, a => if bey D G a k then ((k : Int), -a.2) :: rst D G k ((k : Int), -a.2) else rst D G k a
def rstOf (D G : Fn) (a : Must) : List Must := if a.1 < 0 then [] else rst D G a.1.toNat a
def paper (n : Nat) (D F G : Fn) : List Must := match fm F G n with
  | [] => []
  | a :: _ => a :: rstOf D G a
/-- where a wheel alone comes to -/
def goj (d x : Int) (row : List Int) : Int := row.foldl (fun x a => drag d a x) x
theorem goj_cons (d x a : Int) (row : List Int) : goj d x (a :: row) = goj d (drag d a x) row := rfl
/-- of the pieces -1 .. n - 1 -/
def Pcs (n : Nat) (D G : Fn) : Prop := D (-1) = 0 ∧ ∀ i j : Int, -1 ≤ i → i ≤ j → j < n → 0 ≤ D i ∧ D i ≤ D j ∧ G j - G i ≤ D j - D i ∧ G i - G j ≤ D j - D i
theorem rst_leads {n : Nat} {D G : Fn} (hG : Pcs n D G) : ∀ (k : Nat) (a : Must) (P : Fn), (a.2 = 1 ∨ a.2 = -1) → (k : Int) ≤ a.1 → a.1 < n → (∀ j : Int, k ≤ j → j < n → P j = G j) → (∀ j : Int, -1 ≤ j → j < k → P j = mp D G a - a.2 * D j) →
    ∀ j : Int, -1 ≤ j → j < n → goj (D j) (P j) ((rst D G k a).map (mp D G)) = G j
  | 0, ⟨w, s⟩, P, hs, hk, hw, h1, h2, j, hj, hjn => by
    have hD := hG.1
    have hm := h2 (-1) (by omega) (by omega)
    have g1 := hG.2 (-1) w (by omega) (by omega) hw
    rw [hD] at hm
    simp only [rst]
    split
    · rename_i hb
      simp only [List.map_cons, List.map_nil, goj_cons, mp]
      show drag _ _ _ = _
      simp only [bey, mp] at hb hm hs hk hw g1
      by_cases e : j = -1
      · subst e
        rw [hD] at hb ⊢
        rw [drag_zero]
        omega
      · rw [h1 j (by omega) hjn, hD]
        have g2 := hG.2 (-1) j (by omega) (by omega) hjn
        unfold drag
        split
        · omega
        · split <;> omega
    · rename_i hb
      show P j = G j
      simp only [bey, mp] at hb hm hs hk hw g1
      by_cases e : j = -1
      · subst e
        rcases hs with rfl | rfl <;> omega
      · exact h1 j (by omega) hjn
  | k + 1, ⟨w, s⟩, P, hs, hk, hw, h1, h2, j, hj, hjn => by
    have hm := h2 k (by omega) (by omega)
    simp only [mp] at hs hk hw hm
    have g1 := hG.2 k w (by omega) (by omega) hw
    have g0 := hG.2 (-1) k (by omega) (by omega) (by omega)
    simp only [rst]
    split
    · rename_i hb
      simp only [List.map_cons, goj_cons]
      refine rst_leads hG k ((k : Int), -s) (fun i => drag (D i) (mp D G ((k : Int), -s)) (P i)) ?_ (Int.le_refl _) (by simp only; omega) (fun i hi1 hi2 => ?_) (fun i hi1 hi2 => ?_) j hj hjn
      · simp only; omega
      · simp only [mp, bey] at hb ⊢
        by_cases e : i = k
        · subst e
          rw [hm]
          unfold drag
          rcases hs with rfl | rfl
          · split
            · omega
            · split <;> omega
          · split
            · omega
            · split <;> omega
        · rw [h1 i (by omega) hi2]
          have g2 := hG.2 k i (by omega) (by omega) hi2
          unfold drag
          rcases hs with rfl | rfl
          · split
            · omega
            · split <;> omega
          · split
            · omega
            · split <;> omega
      · simp only [mp, bey] at hb ⊢
        rw [h2 i (by omega) (by omega)]
        have g3 := hG.2 i k (by omega) (by omega) (by omega)
        simp only [mp]
        unfold drag
        rcases hs with rfl | rfl
        · split
          · omega
          · split <;> omega
        · split
          · omega
          · split <;> omega
    · rename_i hb
      refine rst_leads hG k (w, s) P hs (by simp only; omega) hw (fun i hi1 hi2 => ?_) (fun i hi1 hi2 => h2 i hi1 (by omega)) j hj hjn
      by_cases e : i = k
      · subst e
        simp only [mp, bey] at hb
        rcases hs with rfl | rfl <;> omega
      · exact h1 i (by omega) hi2
theorem fm_spec {F G : Fn} : ∀ (n : Nat), (fm F G n = [] ∧ ∀ j : Int, -1 ≤ j → j < n → F j = G j) ∨ ∃ w : Int, fm F G n = [(w, sgn F G w)] ∧ -1 ≤ w ∧ w < n ∧ F w ≠ G w ∧ ∀ j : Int, w < j → j < n → F j = G j
  | 0 => by
    simp only [fm]
    split
    · rename_i h
      refine .inl ⟨rfl, fun j h1 h2 => ?_⟩
      have : j = -1 := by omega
      rw [this]; exact h
    · rename_i h
      exact .inr ⟨-1, rfl, by omega, by omega, h, fun j h1 h2 => by omega⟩
  | k + 1 => by
    simp only [fm]
    split
    · rename_i h
      rcases fm_spec (F := F) (G := G) k with ⟨e, q⟩ | ⟨w, e, h1, h2, h3, h4⟩
      · refine .inl ⟨e, fun j h1 h2 => ?_⟩
        by_cases e : j = k
        · rw [e]; exact h
        · exact q j h1 (by omega)
      · refine .inr ⟨w, e, h1, by omega, h3, fun j z1 z2 => ?_⟩
        by_cases e : j = k
        · rw [e]; exact h
        · exact h4 j z1 (by omega)
    · rename_i h
      exact .inr ⟨k, rfl, by omega, by omega, h, fun j h1 h2 => by omega⟩
theorem paper_leads {n : Nat} {D F G : Fn} (hF : Pcs n D F) (hG : Pcs n D G) : ∀ j : Int, -1 ≤ j → j < n → goj (D j) (F j) ((paper n D F G).map (mp D G)) = G j := by
  intro j hj hjn
  unfold paper
  rcases fm_spec (F := F) (G := G) n with ⟨e, q⟩ | ⟨w, e, h1, h2, h3, h4⟩
  · rw [e]; exact q j hj hjn
  · rw [e]
    simp only [List.map_cons, goj_cons, rstOf]
    have hs : sgn F G w = 1 ∧ F w < G w ∨ sgn F G w = -1 ∧ G w < F w := by
      unfold sgn; split <;> omega
    have aux : ∀ i : Int, -1 ≤ i → i < n → (w ≤ i → drag (D i) (mp D G (w, sgn F G w)) (F i) = G i) ∧ (i < w → drag (D i) (mp D G (w, sgn F G w)) (F i) = mp D G (w, sgn F G w) - sgn F G w * D i) := by
      intro i hi1 hi2
      simp only [mp]
      constructor
      · intro hwi
        have g1 := hG.2 w i h1 hwi hi2
        by_cases ew : w = i
        · subst ew
          unfold drag
          rcases hs with ⟨e1, e2⟩ | ⟨e1, e2⟩ <;> rw [e1]
          · split
            · omega
            · split <;> omega
          · split
            · omega
            · split <;> omega
        · rw [h4 i (by omega) hi2]
          unfold drag
          rcases hs with ⟨e1, e2⟩ | ⟨e1, e2⟩ <;> rw [e1]
          · split
            · omega
            · split <;> omega
          · split
            · omega
            · split <;> omega
      · intro hiw
        have g1 := hG.2 i w hi1 (by omega) h2
        have f1 := hF.2 i w hi1 (by omega) h2
        unfold drag
        rcases hs with ⟨e1, e2⟩ | ⟨e1, e2⟩ <;> rw [e1]
        · split
          · omega
          · split <;> omega
        · split
          · omega
          · split <;> omega
    split
    · rename_i hw
      exact (aux j hj hjn).1 (by omega)
    · rename_i hw
      refine rst_leads hG w.toNat (w, sgn F G w) (fun i => drag (D i) (mp D G (w, sgn F G w)) (F i)) ?_ (by simp only; omega) h2 (fun i hi1 hi2 => (aux i (by omega) hi2).1 (by omega)) (fun i hi1 hi2 => (aux i hi1 (by omega)).2 (by omega)) j hj hjn
      rcases hs with ⟨e1, _⟩ | ⟨e1, _⟩ <;> rw [e1] <;> simp
/-! ### papers -/
def okMust (n : Nat) (m : Must) : Prop := -1 ≤ m.1 ∧ m.1 < n ∧ (m.2 = 1 ∨ m.2 = -1)
def fstOk (F G : Fn) (m : Must) : Prop := F m.1 ≠ G m.1 ∧ m.2 = sgn F G m.1
def nxt (D G : Fn) (a m : Must) : Prop := m.2 = -a.2 ∧ bey D G a m.1
def chain (n : Nat) (D G : Fn) : Must → List Must → Prop
  | _, [] => True
  | a, m :: ms => okMust n m ∧ nxt D G a m ∧ chain n D G m ms
def isPap (n : Nat) (D F G : Fn) : List Must → Prop
  | [] => True
  | m :: ms => okMust n m ∧ fstOk F G m ∧ chain n D G m ms
theorem rst_chain {n : Nat} {D G : Fn} : ∀ (k : Nat) (a : Must), (a.2 = 1 ∨ a.2 = -1) → k ≤ n → chain n D G a (rst D G k a)
  | 0, a, hs, hk => by
    simp only [rst]
    split
    · rename_i h
      exact ⟨⟨by simp only; omega, by simp only; omega, by simp only; omega⟩, ⟨rfl, h⟩, trivial⟩
    · trivial
  | k + 1, a, hs, hk => by
    simp only [rst]
    split
    · rename_i h
      exact ⟨⟨by simp only; omega, by simp only; omega, by simp only; omega⟩, ⟨rfl, h⟩, rst_chain k _ (by simp only; omega) (by omega)⟩
    · exact rst_chain k a hs (by omega)
theorem paper_isPap {n : Nat} {D F G : Fn} : isPap n D F G (paper n D F G) := by
  unfold paper
  rcases fm_spec (F := F) (G := G) n with ⟨e, q⟩ | ⟨w, e, h1, h2, h3, h4⟩
  · rw [e]; trivial
  · rw [e]
    have hs : sgn F G w = 1 ∨ sgn F G w = -1 := by unfold sgn; split <;> simp
    refine ⟨⟨h1, h2, hs⟩, ⟨h3, rfl⟩, ?_⟩
    unfold rstOf
    split
    · trivial
    · rename_i hw
      simp only at hw
      exact rst_chain _ _ hs (by simp only; omega)
theorem rst_length {D G : Fn} : ∀ (k : Nat) (a : Must), (rst D G k a).length ≤ k + 1
  | 0, a => by simp only [rst]; split <;> simp
  | k + 1, a => by
    simp only [rst]
    split
    · have := rst_length (D := D) (G := G) k ((k : Int), -a.2); simp; omega
    · have := rst_length (D := D) (G := G) k a; omega
theorem paper_length {n : Nat} {D F G : Fn} : (paper n D F G).length ≤ n + 1 := by
  unfold paper
  rcases fm_spec (F := F) (G := G) n with ⟨e, q⟩ | ⟨w, e, h1, h2, h3, h4⟩
  · rw [e]; simp
  · rw [e]
    simp only [List.length_cons, rstOf]
    split
    · simp
    · rename_i hw
      have := rst_length (D := D) (G := G) w.toNat (w, sgn F G w)
      omega
/-- a paper, must by must -/
def stepAt (D F G : Fn) (ms : List Must) (k : Nat) : Prop := ∀ m, ms[k]? = some m → (k = 0 → fstOk F G m) ∧ ∀ a, 0 < k → ms[k - 1]? = some a → nxt D G a m
/-! ### ways -/
def ab (i : Int) : Int := if i < 0 then -i else i
def way : Int → List Int → Int
  | _, [] => 0
  | h, x :: r => ab (x - h) + way x r
theorem ab_nonneg (i : Int) : 0 ≤ ab i := by unfold ab; split <;> omega
theorem way_nonneg : ∀ (r : List Int) (h : Int), 0 ≤ way h r
  | [], _ => Int.le_refl _
  | x :: r, h => by have := way_nonneg r x; have := ab_nonneg (x - h); simp only [way]; omega
theorem way_append : ∀ (r1 r2 : List Int) (h : Int), way h (r1 ++ r2) = way h r1 + way (lastOf h r1) r2
  | [], r2, h => by simp [way, lastOf]
  | x :: r, r2, h => by simp only [List.cons_append, way, lastOf]; rw [way_append r r2 x]; omega
def wayL : List Int → Int
  | [] => 0
  | h :: r => way h r
theorem wayL_two (x y : Int) (r : List Int) : wayL (x :: y :: r) = ab (y - x) + wayL (y :: r) := rfl
theorem wayL_short : ∀ {xs : List Int}, xs.length ≤ 1 → wayL xs = 0
  | [], _ => rfl
  | [_], _ => rfl
  | _ :: _ :: _, h => by simp at h
/-- no row that leads to the goal is shorter than a paper weighs -/
theorem paper_least {n : Nat} {D G : Fn} (hD0 : D (-1) = 0) (hD : ∀ j : Int, -1 ≤ j → j < n → 0 ≤ D j) : ∀ (r : List Int) (P : Fn) (h : Int) (ms : List Must), (∀ j : Int, -1 ≤ j → j < n → P j - h ≤ D j ∧ h - P j ≤ D j) → (∀ j : Int, -1 ≤ j → j < n → goj (D j) (P j) r = G j) →
    isPap n D P G ms → way h (ms.map (mp D G)) ≤ way h r
  | r, P, h, [], _, _, _ => way_nonneg r h
  | [], P, h, m :: ms, hP, hr, hp => absurd (hr m.1 hp.1.1 hp.1.2.1) hp.2.1.1
  | x :: r, P, h, ⟨w, s⟩ :: ms, hP, hr, hp => by
    obtain ⟨⟨o1, o2, o3⟩, ⟨f1, f2⟩, hc⟩ := hp
    simp only at o1 o2 o3 f1 f2
    have hw := hP w o1 o2
    have hDw := hD w o1 o2
    have hP' : ∀ j : Int, -1 ≤ j → j < n → drag (D j) x (P j) - x ≤ D j ∧ x - drag (D j) x (P j) ≤ D j := fun j h1 h2 => by
      have := hD j h1 h2
      unfold drag; constructor <;> (split <;> (try split) <;> omega)
    have ih := paper_least (G := G) hD0 hD r (fun j => drag (D j) x (P j)) x
    have hsg : s = 1 ∧ P w < G w ∨ s = -1 ∧ G w < P w := by
      unfold sgn at f2; split at f2 <;> omega
    by_cases hx : (x - mp D G (w, s)) * s < 0
    · have hdr : (s = 1 → drag (D w) x (P w) < G w) ∧ (s = -1 → G w < drag (D w) x (P w)) := by
        simp only [mp] at hx
        unfold drag
        rcases hsg with ⟨rfl, e2⟩ | ⟨rfl, e2⟩
        · refine ⟨fun _ => ?_, fun z => by omega⟩
          split
          · omega
          · split <;> omega
        · refine ⟨fun z => by omega, fun _ => ?_⟩
          split
          · omega
          · split <;> omega
      have hi := ih ((w, s) :: ms) hP' (fun j h1 h2 => hr j h1 h2) ⟨⟨o1, o2, o3⟩, by
        simp only [fstOk, sgn]
        rcases o3 with rfl | rfl
        · have := hdr.1 rfl
          exact ⟨by omega, by rw [if_pos (by omega)]⟩
        · have := hdr.2 rfl
          exact ⟨by omega, by rw [if_neg (by omega)]⟩, hc⟩
      simp only [List.map_cons, way] at hi ⊢
      have t1 : ab (mp D G (w, s) - h) ≤ ab (x - h) + ab (mp D G (w, s) - x) := by unfold ab; split <;> split <;> split <;> omega
      omega
    · simp only [List.map_cons, way]
      have hnear : (mp D G (w, s) - h) * s > 0 := by
        simp only [mp]
        rcases hsg with ⟨rfl, e2⟩ | ⟨rfl, e2⟩ <;> omega
      cases ms with
      | nil =>
        have := way_nonneg r x
        simp only [List.map_nil, way]
        have t1 : ab (mp D G (w, s) - h) ≤ ab (x - h) := by
          rcases hsg with ⟨rfl, e2⟩ | ⟨rfl, e2⟩ <;> (unfold ab; split <;> split <;> omega)
        omega
      | cons m2 ms2 =>
        obtain ⟨w2, s2⟩ := m2
        obtain ⟨⟨p1, p2, p3⟩, ⟨n1, n2⟩, hc2⟩ := hc
        simp only at p1 p2 p3 n1
        have hD2 := hD w2 p1 p2
        have hb : (mp D G (w, s) - G w2) * s > D w2 := n2
        have hi := ih ((w2, s2) :: ms2) hP' (fun j h1 h2 => hr j h1 h2) ⟨⟨p1, p2, p3⟩, by
          have := hP' w2 p1 p2
          simp only [fstOk, sgn]
          rcases hsg with ⟨rfl, e2⟩ | ⟨rfl, e2⟩
          · exact ⟨by omega, by rw [if_neg (by omega)]; omega⟩
          · exact ⟨by omega, by rw [if_pos (by omega)]; omega⟩, hc2⟩
        simp only [List.map_cons, way] at hi ⊢
        have e2 : mp D G (w2, s2) = G w2 + s2 * D w2 := rfl
        have t2 : ab (mp D G (w, s) - h) + ab (mp D G (w2, s2) - mp D G (w, s)) ≤ ab (x - h) + ab (mp D G (w2, s2) - x) := by
          rcases hsg with ⟨rfl, _⟩ | ⟨rfl, _⟩ <;> (subst n1; unfold ab; split <;> split <;> split <;> split <;> omega)
        omega
/-! ### by loops going down -/
def rr (D G : Fn) : Nat → Must → List Must
  | 0, _ => []
  | k + 1, a => rst D G k a
theorem rr_step (D G : Fn) (k : Nat) (a : Must) : rr D G (k + 1) a = if bey D G a ((k : Int) - 1) then ((k : Int) - 1, -a.2) :: rr D G k ((k : Int) - 1, -a.2) else rr D G k a := by
  cases k with
  | zero => simp [rr, rst]
  | succ k => simp only [rr, rst]; rw [show ((k + 1 : Nat) : Int) - 1 = k by omega]
theorem rr_of (D G : Fn) (a : Must) (h : -1 ≤ a.1) : rstOf D G a = rr D G (a.1 + 1).toNat a := by
  unfold rstOf
  split
  · rw [show (a.1 + 1).toNat = 0 by omega]; rfl
  · rw [show (a.1 + 1).toNat = a.1.toNat + 1 by omega]; rfl
def ff (F G : Fn) : Nat → List Must
  | 0 => []
  | k + 1 => fm F G k
theorem ff_step (F G : Fn) (k : Nat) : ff F G (k + 1) = if F ((k : Int) - 1) = G ((k : Int) - 1) then ff F G k else [((k : Int) - 1, sgn F G ((k : Int) - 1))] := by
  cases k with
  | zero => simp [ff, fm]
  | succ k => simp only [ff, fm]; rw [show ((k + 1 : Nat) : Int) - 1 = k by omega]
/-! ### lists -/
theorem pc_neg (xs : List Int) (h : Int) : pc xs h (-1) = h := by simp [pc]
theorem pc_nat {xs : List Int} {h : Int} {k : Nat} {x : Int} (e : xs[k]? = some x) : pc xs h (k : Int) = x := by
  simp only [pc]
  rw [if_neg (by omega)]
  simp [List.getD, e]
theorem pc_get {xs : List Int} {h w : Int} (h0 : 0 ≤ w) (h1 : w < xs.length) : xs[w.toNat]? = some (pc xs h w) := by
  have : w.toNat < xs.length := by omega
  simp only [pc]
  rw [if_neg (by omega)]
  simp [List.getD, this]
theorem adj : ∀ (ps xs : List Int) (d a : Int), (∀ p ∈ ps, 0 ≤ p) → keeps ps a xs → xs.length = ps.length → ∀ k : Nat, k < ps.length →
    ∃ p, 0 ≤ p ∧ pc (depths d ps) d k - pc (depths d ps) d ((k : Int) - 1) = p ∧ pc xs a k - pc xs a ((k : Int) - 1) ≤ p ∧ pc xs a ((k : Int) - 1) - pc xs a k ≤ p
  | [], _, _, _, _, _, _, k, hk => by simp at hk
  | p :: ps, [], d, a, h0, hk, hl, k, hkk => by simp at hl
  | p :: ps, x :: xs, d, a, h0, hk, hl, 0, hkk => by
    refine ⟨p, h0 p List.mem_cons_self, ?_, ?_⟩
    · rw [show ((0 : Nat) : Int) - 1 = -1 by omega, pc_neg, pc_nat (x := d + p) (by simp [depths])]; omega
    · rw [show ((0 : Nat) : Int) - 1 = -1 by omega, pc_neg, pc_nat (x := x) (by simp)]
      exact ⟨by have := hk.1; omega, by have := hk.1; omega⟩
  | p :: ps, x :: xs, d, a, h0, hk, hl, k + 1, hkk => by
    obtain ⟨q, q0, q1, q2, q3⟩ := adj ps xs (d + p) x (fun z hz => h0 z (List.mem_cons_of_mem _ hz)) hk.2 (by simpa using hl) k (by simpa using hkk)
    have sh : ∀ (ys : List Int) (y b c : Int) , pc (y :: ys) b ((k + 1 : Nat) : Int) = pc ys c k := fun ys y b c => by
      simp only [pc]
      rw [if_neg (by omega), if_neg (by omega)]
      simp [show ((k : Int) + 1).toNat = k + 1 by omega]
    have sh2 : ∀ (ys : List Int) (y b : Int) , pc (y :: ys) b (((k + 1 : Nat) : Int) - 1) = pc ys y ((k : Int) - 1) := fun ys y b => by
      simp only [pc]
      rw [if_neg (by omega)]
      cases k with
      | zero => simp
      | succ k => rw [if_neg (by omega)]; simp [show ((k + 1 : Nat) : Int).toNat = k + 1 by omega, show (((k + 1 : Nat) : Int) - 1).toNat = k by omega]
    refine ⟨q, q0, ?_, ?_, ?_⟩
    · simp only [depths]
      rw [sh _ _ _ (d + p), sh2]; exact q1
    · rw [sh _ _ _ x, sh2]; exact q2
    · rw [sh _ _ _ x, sh2]; exact q3
theorem pcs_of {ps xs : List Int} {a : Int} (h0 : ∀ p ∈ ps, 0 ≤ p) (hk : stand ps a xs) : Pcs ps.length (pc (depths 0 ps) 0) (pc xs a) := by
  have A := adj ps xs 0 a h0 hk.2 hk.1
  have base : ∀ (k : Nat) (i : Int), -1 ≤ i → i + k < ps.length → 0 ≤ pc (depths 0 ps) 0 i → pc (depths 0 ps) 0 i ≤ pc (depths 0 ps) 0 (i + k) ∧ pc xs a (i + k) - pc xs a i ≤ pc (depths 0 ps) 0 (i + k) - pc (depths 0 ps) 0 i ∧ pc xs a i - pc xs a (i + k) ≤ pc (depths 0 ps) 0 (i + k) - pc (depths 0 ps) 0 i := by
    intro k
    induction k with
    | zero => intro i _ _ _; simp
    | succ k ih =>
      intro i h1 h2 h3
      have := ih i h1 (by omega) h3
      obtain ⟨q, q0, q1, q2, q3⟩ := A (i + k + 1).toNat (by omega)
      rw [show (((i + k + 1).toNat : Nat) : Int) = i + k + 1 by omega, show i + (k : Int) + 1 - 1 = i + k by omega] at q1 q2 q3
      rw [show i + ((k + 1 : Nat) : Int) = i + k + 1 by omega]
      omega
  refine ⟨pc_neg _ _, fun i j h1 h2 h3 => ?_⟩
  have b0 : 0 ≤ pc (depths 0 ps) 0 i := by
    have := base (i + 1).toNat (-1) (by omega) (by omega) (by rw [pc_neg]; omega)
    rw [show -1 + (((i + 1).toNat : Nat) : Int) = i by omega, pc_neg] at this
    exact this.1
  have := base (j - i).toNat i h1 (by omega) b0
  rw [show i + (((j - i).toNat : Nat) : Int) = j by omega] at this
  exact ⟨b0, this⟩
theorem endW_goj {ps : List Int} (h0 : ∀ p ∈ ps, 0 ≤ p) : ∀ (row ws : List Int) (a : Int), stand ps a ws → ∀ j : Int, -1 ≤ j → j < ps.length → pc (endW ps ws row) (lastOf a row) j = goj (pc (depths 0 ps) 0 j) (pc ws a j) row
  | [], ws, a, hs, j, h1, h2 => rfl
  | x :: row, ws, a, hs, j, h1, h2 => by
    have hs2 : stand ps x (dragAll ps ws x) := ⟨by rw [dragAll_length]; have := hs.1; omega, dragAll_keeps ps ws x h0⟩
    have ih := endW_goj h0 row (dragAll ps ws x) x hs2 j h1 h2
    rw [goj_cons]
    show pc (endW ps (dragAll ps ws x) row) (lastOf x row) j = _
    rw [ih]
    congr 1
    by_cases e : j = -1
    · subst e
      rw [pc_neg, pc_neg, pc_neg, drag_zero]
    · have hl := hs.1
      have e1 := pc_get (xs := depths 0 ps) (h := 0) (w := j) (by omega) (by rw [depths_length]; exact h2)
      have e2 := pc_get (xs := ws) (h := a) (w := j) (by omega) (by omega)
      have e3 := alone_get ps ws 0 x j.toNat _ _ e1 e2
      rw [← dragAll_eq h0 hs.2] at e3
      have := pc_nat (h := x) e3
      rw [show ((j.toNat : Nat) : Int) = j by omega] at this
      exact this
theorem pc_ext {xs ys : List Int} {a b : Int} (hl : xs.length = ys.length) (h : ∀ j : Int, -1 ≤ j → j < xs.length → pc xs a j = pc ys b j) : xs = ys ∧ a = b := by
  refine ⟨?_, ?_⟩
  · apply List.ext_getElem? 
    intro i
    by_cases hi : i < xs.length
    · have := h i (by omega) (by omega)
      have e1 := pc_get (xs := xs) (h := a) (w := i) (by omega) (by omega)
      have e2 := pc_get (xs := ys) (h := b) (w := i) (by omega) (by omega)
      rw [Int.toNat_natCast] at e1 e2
      rw [e1, e2, this]
    · rw [List.getElem?_eq_none (by omega), List.getElem?_eq_none (by omega)]
  · have := h (-1) (by omega) (by omega)
    rwa [pc_neg, pc_neg] at this
/-- the told row -/
def told (ps : List Int) (h : Int) (ws : List Int) (e : Int) (gs : List Int) : List Must := paper ps.length (pc (depths 0 ps) 0) (pc ws h) (pc gs e)
def toldRow (ps : List Int) (h : Int) (ws : List Int) (e : Int) (gs : List Int) : List Int := (told ps h ws e gs).map (mp (pc (depths 0 ps) 0) (pc gs e))
theorem told_leads {ps ws gs : List Int} {h e : Int} (h0 : ∀ p ∈ ps, 0 ≤ p) (hs : stand ps h ws) (hg : stand ps e gs) : endW ps ws (toldRow ps h ws e gs) = gs ∧ lastOf h (toldRow ps h ws e gs) = e := by
  refine pc_ext (by rw [endW_length _ _ hs.1, hg.1]) fun j h1 h2 => ?_
  rw [endW_length _ _ hs.1] at h2
  rw [endW_goj h0 _ _ _ hs j h1 h2]
  exact paper_leads (pcs_of h0 hs) (pcs_of h0 hg) j h1 h2
theorem least {ps ws gs row : List Int} {h e : Int} {ms : List Must} (h0 : ∀ p ∈ ps, 0 ≤ p) (hs : stand ps h ws) (hr : endW ps ws row = gs) (he : lastOf h row = e) (hp : isPap ps.length (pc (depths 0 ps) 0) (pc ws h) (pc gs e) ms) :
    way h (ms.map (mp (pc (depths 0 ps) 0) (pc gs e))) ≤ way h row := by
  have hF := pcs_of h0 hs
  refine paper_least hF.1 (fun j h1 h2 => (hF.2 j j h1 (Int.le_refl _) h2).1) row (pc ws h) h ms (fun j h1 h2 => ?_) (fun j h1 h2 => ?_) hp
  · have := hF.2 (-1) j (by omega) h1 h2
    rw [hF.1, pc_neg] at this
    omega
  · rw [← endW_goj h0 _ _ _ hs j h1 h2, hr, he]
end M

set_option Elab.async false
set_option linter.all false
set_option maxRecDepth 100000
/-! xs[::-1], xs.index(i), xs.insert(i, x) -/
namespace L2
open PySem PySem.Spec PyProof.Rows
section
variable {X : Cx} {e k : Expr} {te : TE} {tk : TO} {pos p2 : Pos}
def rRev (K : PySem.W.Frag) : V → Hp → VK → Prop := fun x H Q => ∃ a xs, x = .ref a ∧ SqL K H a xs ∧ ∀ p, H p = none → Q (.ref p) (upd H p (.lst xs.reverse))
def tRev (K : PySem.W.Frag) (te : TE) (tk : TO) : TE := fun σ H Q => te σ H fun x H1 => tk σ H1 fun j H2 => j = some (-1) ∧ rRev K x H2 Q
end
section
variable {X : Cx}
def rIndex : V → List V → Hp → VK → Prop := fun x vs H Q => ∃ l ns k, x = .ref l ∧ vs = [.int k] ∧ H l = some (.lst (iL ns)) ∧ k ∈ ns ∧ Q (.int (ns.idxOf k : Nat)) H
def rInsert : V → List V → Hp → VK → Prop := fun x vs H Q => ∃ l xs y, x = .ref l ∧ vs = [.int 0, y] ∧ H l = some (.lst xs) ∧ xs.length < sizeLine ∧ Q .non (upd H l (.lst (y :: xs)))
end
section
variable {K : PySem.W.Frag} {H : Hp} {Q : VK}
theorem atI_neg {α : Type} {xs : List α} {i : Int} {v : α} (h0 : i < 0) (h1 : 0 ≤ i + xs.length) (h : xs[(i + xs.length).toNat]? = some v) : atI xs i = some v := by
  have e : ixN xs.length i = some (i + xs.length).toNat := by
    unfold ixN
    rw [if_neg (by omega), if_pos (by omega)]
  unfold atI
  rw [e]
  exact h
theorem i_ixNeg {p : Addr} {xs : List V} {i : Int} {v : V} (h : SqL K H p xs) (h0 : i < 0) (h1 : 0 ≤ i + xs.length) (e : xs[(i + xs.length).toNat]? = some v) (q : Q v H) : rIxP K (.ref p) (.int i) H Q := .inl ⟨p, _, _, _, rfl, rfl, h, atI_neg h0 h1 e, q⟩
end
end L2

set_option Elab.async false
set_option linter.all false
set_option maxRecDepth 100000
/-! An exception on its way through the frames, with its own dict known to be none. -/
namespace L2
open PySem PySem.Spec PyProof.Rows
/-- the exception at e and the head of its trace -/
def TrD (h B : Heap) (e : Addr) (cls fl : Value) : Prop :=
  ∃ oe vs T oT ts, h.get? e = some oe ∧ (oe.cls = cls ∧ oe.dict = none) ∧ oe.data = .fields vs ∧ vs[1]? = some (.ref T) ∧ B.get? T = none ∧ T ≠ e ∧ h.get? T = some oT ∧ oT.data = .fields ts ∧ ts[3]? = some fl
structure FlyAt (B : Heap) (l : List Env) (e : Addr) (cls fl : Value) (h : Heap) : Prop where
  st : B.StaysIn h
  ne : B.get? e = none
  fr : h.FunFrames B l
  tr : TrD h B e cls fl
abbrev Fly (B : Heap) (l : List Env) (e : Addr) (cls : Value) (h : Heap) : Prop := FlyAt B l e cls .none h
section
variable {M : Model} {A : Around} {E : Value → Shared → Prop} {s : Shared} {B : Heap} {env : Env} {outer : List Env} {L e : Addr}
end
end L2

set_option Elab.async false
set_option linter.all false
set_option maxRecDepth 100000
/-! Exceptions over the layer: an exception that a call lets out, and how it leaves the frames. (Part of a road that is not finished: see NOTES.md.) -/
namespace L2
open PySem PySem.Spec PyProof.Rows
section
variable {P : Program} {w : World} {H : Hp} {h h' : Heap} {a : Addr} {o : HO}
end
/-- an exception behind a call: a new object e of class cls; B keeps all that was there but the frames -/
def CXE (P : Program) (w : World) : CXT := fun outer H s E v s' => ∃ (e : Addr) (cls : Value) (B : Heap) (H' : Hp), v = .ref e ∧ s'.os = s.os ∧ AllBare s'.gens ∧ Un (frs outer) [] H H' s.heap s'.heap ∧ HOk P w H' s'.heap ∧
  Fly B outer e cls s'.heap ∧ (∀ b o, s.heap.get? b = some o → b ∉ frs outer → ∃ o', B.get? b = some o') ∧ (∀ b, H' b ≠ none → ∃ o, B.get? b = some o) ∧ E cls none H'
section
variable {P : Program} {w : World} {K : PySem.W.Frag} {mg : Str → Option Value} {base : Heap} {N : List Str} {qual : Str} {scope : Scope} {f : Addr} {cd : Value} {A : Around} {outer : List Env} {s : Shared} {H : Hp} {E : XK}
end
end L2
namespace L2
open PySem PySem.Spec PyProof.Rows
/-! ### raise of an own class -/
/-- what holds of an own class under a built-in exception -/
structure ExcCls (K : PySem.W.Frag) (mg : Str → Option Value) (x : Str) (C : Addr) (bmB : List Value) (newId : String) : Prop where
  at_ : mg x = some (.ref C)
  obj : PySem.W.excIn K C bmB newId = true
/-- raise x(e, ..): E of the class -/
def tRaise (C : Addr) (E : XK) (t : TA) : TS := fun _ σ H => t σ H fun vs H1 => vs.length ≤ 3 ∧ E (.ref C) none H1
section
variable {P : Program} {w : World} {K : PySem.W.Frag} {mg : Str → Option Value} {base : Heap} {N : List Str} {qual : Str} {scope : Scope} {f : Addr} {cd : Value} {A : Around} {outer : List Env} {s : Shared} {H : Hp} {E : XK}
/-- a call of a def that may raise, in such a def -/
def CalleeE (P : Program) (w : World) (K : PySem.W.Frag) (mg : Str → Option Value) (base : Heap) (x : Str) (k : Nat) (sp : Sp) : Prop :=
  ∃ f fd ps, FnOk P w K mg base (CXE P w) k f fd ps sp ∧ mg x = some (.ref f) ∧ PySem.W.keepIn K (.ref f) = true ∧ Binds K fd ps []
end
end L2

set_option Elab.async false
set_option linter.all false
set_option maxRecDepth 100000
/-! A call within a try: the way of an exception up to the clause. (Not finished: the clause's suite, and calls within it, are to come; see NOTES.md.) -/
namespace L2
open PySem PySem.Spec PyProof.Rows
section
variable {X : Cx}
/-- the context within a try: what is pinned outside is kept, another wish -/
abbrev Cx.inTry (X : Cx) (pins : List (Addr × Obj)) (ξ : Value → Shared → Prop) : Cx := { X with pn := X.pn ++ pins, xe := ξ }
/-- a call whose exceptions may ask for the variables as they are -/
def tCallS (sp : Sp) (Ex : St → XK) (t : TA) : TE := fun σ H Q => t σ H fun vs H1 => sp (vs ++ []) H1 Q (Ex σ)
def PassS (X : Cx) (Ex : St → XK) : Prop := ∀ (pins : List (Addr × Obj)) (σ : St) (H : Hp) (s : Shared) (e : Value) (s' : Shared), Inv X pins σ H s → CXE X.prog X.w X.stack H s (Ex σ) e s' → X.xe e s'
/-- an exception object of the class cls lies at e -/
def ExcAt (e : Addr) (cls : Value) : Heap → Prop := fun h => ∃ o vs, h.get? e = some o ∧ o.cls = cls ∧ o.dict = none ∧ o.data = .fields vs
/-- within a clause: an exception is being handled, none is let out -/
abbrev Cx.inClause (X : Cx) (pins : List (Addr × Obj)) (e : Addr) : Cx := { X with A := X.A.mark (some (.ref e)), calm := false, pn := X.pn ++ pins, xe := fun _ _ => False }
/-- try: body, except T as x: suite (the suite ends of itself) -/
def tTry (K : PySem.W.Frag) (TC : Addr) (j : Nat) (tb : (St → XK) → TS) (ts : TS) : TS := fun D σ H =>
  tb (fun σ' cls _ H' => PySem.W.exmOne K cls (.ref TC) = some true ∧ ∀ e, H' e = none → ts { nx := fun σ2 H2 => D.nx (σ2.set j none) H2, rt := fun _ _ => False } (σ'.set j (some (.ref e))) (upd H' e (.ext (ExcAt e cls)))) D σ H
end
end L2

set_option Elab.async false
set_option linter.all false
set_option maxRecDepth 100000
/-! Calls within an except clause: a def's promise that does not ask that nothing is being handled. -/
namespace L2
open PySem PySem.Spec PyProof.Rows
/-- room for a call, whatever is being handled -/
structure RoomN (k : Nat) (A : Around) : Prop where
  dp : A.depth + 3 * k + 5 < recursionLimit
  un : A.units + 16 * k + 200 < cLine
structure FnOkN (P : Program) (w : World) (K : PySem.W.Frag) (mg : Str → Option Value) (base : Heap) (k : Nat) (f : Addr) (fd : FuncData) (ps : List Str) (sp : Sp) : Prop where
  len : ∀ vs H Q E, sp vs H Q E → vs.length = ps.length
  run : ∀ (A : Around) (outer : List Env) (s : Shared) (H : Hp) (args : Args) (us : List Value) (vs : List V) (Q : VK) (E : XK), RoomN k A → Env0 P w K mg base A outer s H → BindsTo s fd args (ps.zip us) → Vals vs us → sp vs H Q E →
    codeAny (model P w) A (.call (.ref f) args) (CR CX0 outer P w H s Q E) s
def CalleeN (P : Program) (w : World) (K : PySem.W.Frag) (mg : Str → Option Value) (base : Heap) (x : Str) (k : Nat) (sp : Sp) : Prop :=
  ∃ f fd ps, FnOkN P w K mg base k f fd ps sp ∧ mg x = some (.ref f) ∧ PySem.W.keepIn K (.ref f) = true ∧ Binds K fd ps []
/-- the context of such a def's body -/
abbrev cxN (P : Program) (w : World) (K : PySem.W.Frag) (mg : Str → Option Value) (base : Heap) (N : List Str) (qual : Str) (scope : Scope) (f : Addr) (cd : Value) (A : Around) (outer : List Env) (s : Shared) (H : Hp) (E : XK) : Cx :=
  { cxOf CX0 P w K mg base N qual scope f cd A outer s H E with calm := false, xe := fun _ _ => False }
section
variable {P : Program} {w : World} {K : PySem.W.Frag} {mg : Str → Option Value} {base : Heap}
end
section
variable {X : Cx}
end
end L2

set_option Elab.async false
set_option linter.all false
set_option maxRecDepth 100000
/-! isinstance of an exception of an own class. -/
namespace L2
open PySem PySem.Spec PyProof.Rows
/-- what isinstance asks of an own class -/
structure IsiCls (K : PySem.W.Frag) (D : Addr) : Prop where
  ga : PySem.W.findIn K (.ref D) "__getattribute__" = some (some (.builtin "BaseException.__getattribute__"))
  gt : PySem.W.findIn K (.ref D) "__getattr__" = some none
  mb : PySem.W.mroIn K D (.type "BaseException") = some true
  hd : PySem.W.hasDictIn K D = true
  ca : PySem.W.findIn K (.ref D) "__class__" = some (some (.builtin "object.__class__"))
  sp : PySem.W.specialIn K (.builtin "object.__class__") "__get__" = some (some (.builtin "getset_descriptor.__get__"))
  tk : PySem.W.takesIn K (.builtin "object.__class__") = some true
  mr : PySem.W.mroIn K D (.type "object") = some true
/-- isinstance(e, c): e an exception of an own class -/
def rIsiX (K : PySem.W.Frag) : List V → Hp → VK → Prop := fun xs H Q => ∃ (e D : Addr) (x : V) (c : Value) (b : Bool), xs = [.ref e, x] ∧ (∀ u, RelV x u → u = c) ∧ H e = some (.ext (ExcAt e (.ref D))) ∧ IsiCls K D ∧ PySem.W.kitOne K (.ref D) c = some b ∧ Q (.bl b) H
end L2

set_option Elab.async false
set_option linter.all false
set_option maxRecDepth 100000
/-! Objects of own classes: a method, or a class, with its promise; such calls in defs that may raise, and within a try. -/
namespace L2
open PySem PySem.Spec PyProof.Rows
/-- a method of a class with its promise -/
def CalleeM (CX : CXT) (P : Program) (w : World) (K : PySem.W.Frag) (mg : Str → Option Value) (base : Heap) (C : Addr) (m : Str) (k : Nat) (sp : Sp) : Prop :=
  ∃ f fd ps, FnOk P w K mg base CX k f fd ps sp ∧ Meth K C m f ∧ Binds K fd ps []
/-- a class with the promise of its __init__ -/
def CalleeC (CX : CXT) (P : Program) (w : World) (K : PySem.W.Frag) (mg : Str → Option Value) (base : Heap) (C : Addr) (x : Str) (k : Nat) (sp : Sp) : Prop :=
  ∃ f fd ps, FnOk P w K mg base CX k f fd ps sp ∧ Mk K C f ∧ mg x = some (.ref C) ∧ Binds K fd ps []
def DefM (K : PySem.W.Frag) (C : Addr) (m qual : Str) (st : Stmt) : Prop := ∃ f fd, Fun K m qual st f fd ∧ Meth K C m f
section
variable {P : Program} {w : World} {K : PySem.W.Frag} {mg : Str → Option Value} {base : Heap} {C : Addr} {m qual : Str} {st : Stmt} {N ps : List Str} {k : Nat} {sp : Sp}
theorem DefM.ok (D : DefM K C m qual st) (S : FnScope N ps (defScope st))
    (bd : ∀ (kV doc pm : Value) (an : Option Addr) (cdv ct : Value) (us : List Value), us.length = ps.length → bindArgs (PySem.W.fnOf m qual (defArgs st) (defBody st) (defScope st) .none kV doc pm an cdv ct) ⟨us, []⟩ = pure (ps.zip us))
    (len : ∀ vs H Q E, sp vs H Q E → vs.length = ps.length)
    (hbody : ∀ (f : Addr) (cdv : Value) (A : Around) (outer : List Env) (s : Shared) (H : Hp) (vs : List V) (Q : VK) (E : XK), Room k (A.deeper (envOfC qual (defScope st) s.heap.objs.size f cdv)) → sp vs H Q E →
      ∃ t, PSs (cxOf CX0 P w K mg base N qual (defScope st) f cdv A outer s H E).nox (defBody st) t ∧ t { nx := fun _ H' => Q .non H', rt := Q } (start N vs) H) : CalleeM CX0 P w K mg base C m (k + 1) sp := by
  obtain ⟨f, fd, F, hm⟩ := D
  exact ⟨f, fd, ps, F.ok S len fun cdv A outer s H vs Q E hr h => hbody f cdv A outer s H vs Q E hr h, hm, F.binds bd⟩
theorem CalleeM.made {CX : CXT} {x : Str} (M : CalleeM CX P w K mg base C "__init__" k sp) (h1 : PySem.W.makesIn K C = true) (h2 : PySem.W.keepIn K (.ref C) = true) (h3 : mg x = some (.ref C)) : CalleeC CX P w K mg base C x k sp := by
  obtain ⟨f, fd, ps, F, hm, hb⟩ := M
  exact ⟨f, fd, ps, F, ⟨h1, hm.at_, hm.fn, h2⟩, h3, hb⟩
end
section
variable {X : Cx} (K : PySem.W.Frag) {C : Addr} {m x : Str} {k : Nat} {sp : Sp} {e o : Expr} {es : List Expr} {ta : TE} {t : TA} {p pos apos : Pos} {f : Str} {tv : TE} {value : Expr} {pos' : Pos}
theorem pe_fldK (he : PE X e ta) (hb : attributeBase e f X.env (eval e X.env) = eval e X.env) (hK : X.K = K := by rfl) : PE X (.Attribute e f pos) (tFld K ta f) := by subst hK; exact pe_fld he hb
theorem ps_fldK (ha : PE X o ta) (hv : PE X value tv) (hs : swapsWith value (some (.Attribute o f pos')) pos.line X.env = pure false) (hK : X.K = K := by rfl) : PS X (.Assign [.Attribute o f pos'] value pos) (sFld K ta tv f) := by subst hK; exact ps_fld ha hv hs
theorem pe_methN {pl : Sem Bool} (M : CalleeM CX0 X.prog X.w X.K X.mg X.base C m k sp) (c : Cls X.K C) (he : PE X o ta) (hr : Room k X.A) (ha : PA X (e :: es) t)
    (hst : starEach (e :: es) X.env = (false, eval e X.env) :: starEach es X.env := by rfl) (hpl : (backTo pos (starEach es X.env)).any (·.1) = false := by rfl)
    (ht : eval (.Call (.Attribute o m apos) (e :: es) [] pos) X.env = (do
      let ov ← eval o X.env
      standAt apos.atName
      let (f, first) ← holding [ov] (getMethod ov m pl)
      callWith pos f first (backTo pos (starEach (e :: es) X.env)) (backToKw pos (keywordEach [] X.env))) := by rfl) : PE X (.Call (.Attribute o m apos) (e :: es) [] pos) (tMeth C m sp [] E0 ta t) := by
  obtain ⟨f, fd, ps, F, hm, hb⟩ := M
  exact pe_meth (pl := pl) he c hm F hr hb .nil pass0 ha (hst := hst) (hpl := hpl) (ht := ht)
theorem pe_meth0N {pl : Sem Bool} (M : CalleeM CX0 X.prog X.w X.K X.mg X.base C m k sp) (c : Cls X.K C) (he : PE X o ta) (hr : Room k X.A)
    (ht : eval (.Call (.Attribute o m apos) [] [] pos) X.env = (do
      let ov ← eval o X.env
      standAt apos.atName
      let (f, first) ← holding [ov] (getMethod ov m pl)
      callWith pos f first (backTo pos (starEach [] X.env)) (backToKw pos (keywordEach [] X.env))) := by rfl) : PE X (.Call (.Attribute o m apos) [] [] pos) (tMeth C m sp [] E0 ta tNil) := by
  obtain ⟨f, fd, ps, F, hm, hb⟩ := M
  exact pe_meth0 (pl := pl) he c hm F hr hb .nil pass0 (ht := ht)
theorem pe_makeN (M : CalleeC CX0 X.prog X.w X.K X.mg X.base C x k sp) (hr : Room (k + 1) X.A) (hg : Gl X x) (ha : PA X (e :: es) t)
    (he : starEach (e :: es) X.env = (false, eval e X.env) :: starEach es X.env := by rfl) (hpl : (backTo pos (starEach es X.env)).any (·.1) = false := by rfl) (hdb : (x == ("__debug__" : Str)) = false := by decide) :
    PE X (.Call (.Name x p) (e :: es) [] pos) (tMake C sp [] E0 t) := by
  obtain ⟨f, fd, ps, F, hM, hm, hb⟩ := M
  exact pe_make hM F hr hg hm hb .nil pass0 ha (hdb := hdb) (he := he) (hpl := hpl)
/-- o.m(e, ..) that may raise, within a try -/
def tMethS (C : Addr) (m : Str) (sp : Sp) (Ex : St → XK) (ta : TE) (t : TA) : TE := fun σ H Q => ta σ H fun x H1 => ∃ a dx fs, x = .ref a ∧ H1 a = some (.ins C dx fs) ∧ fs.lookup m = none ∧
  t σ H1 fun vs H2 => sp (x :: (vs ++ [])) H2 Q (Ex σ)
end
end L2

set_option Elab.async false
set_option linter.all false
namespace M
/-! ### walkers: states one behind the other -/
abbrev WSt := Int × List Int × List Int
def fart : List Int → List Int → List Int → List Int
  | y :: ys, a :: as, p :: ps => (y + ab (p - a)) :: fart ys as ps
  | _, _, _ => []
def nx (ps : List Int) (s : WSt) (c : Int) : WSt := (c, dragAll ps s.2.1 c, fart s.2.2 s.2.1 (dragAll ps s.2.1 c))
def endS (ps : List Int) (s : WSt) : List Int → WSt
  | [] => s
  | c :: r => endS ps (nx ps s c) r
def trail (ps : List Int) (s : WSt) : List Int → List WSt
  | [] => [s]
  | c :: r => s :: trail ps (nx ps s c) r
theorem fart_len : ∀ (ys as ps : List Int), (fart ys as ps).length = min ys.length (min as.length ps.length)
  | [], as, ps => by simp [fart]
  | y :: ys, [], ps => by simp [fart]
  | y :: ys, a :: as, [] => by simp [fart]
  | y :: ys, a :: as, p :: ps => by simp only [fart, List.length_cons, fart_len ys as ps]; omega
theorem fart_get : ∀ (ys as ps : List Int) (k : Nat) {y a p : Int}, ys[k]? = some y → as[k]? = some a → ps[k]? = some p → (fart ys as ps)[k]? = some (y + ab (p - a))
  | [], as, ps, k, y, a, p, h, _, _ => by simp at h
  | y0 :: ys, [], ps, k, y, a, p, _, h, _ => by simp at h
  | y0 :: ys, a0 :: as, [], k, y, a, p, _, _, h => by simp at h
  | y0 :: ys, a0 :: as, p0 :: ps, 0, y, a, p, h1, h2, h3 => by
    simp at h1 h2 h3
    subst h1 h2 h3
    rfl
  | y0 :: ys, a0 :: as, p0 :: ps, k + 1, y, a, p, h1, h2, h3 => by
    simp only [List.getElem?_cons_succ] at h1 h2 h3
    simpa only [fart, List.getElem?_cons_succ] using fart_get ys as ps k h1 h2 h3
theorem fart_take (ys as ps : List Int) (i : Nat) {y a p : Int} (h1 : ys[i]? = some y) (h2 : as[i]? = some a) (h3 : ps[i]? = some p) : (fart ys as ps).take (i + 1) = (fart ys as ps).take i ++ [y + ab (p - a)] := take_snoc_get (fart_get ys as ps i h1 h2 h3)
theorem endS_ws (ps : List Int) : ∀ (r : List Int) (s : WSt), (endS ps s r).2.1 = endW ps s.2.1 r
  | [], s => rfl
  | c :: r, s => endS_ws ps r (nx ps s c)
theorem endS_hd (ps : List Int) : ∀ (r : List Int) (s : WSt), (endS ps s r).1 = lastOf s.1 r
  | [], s => rfl
  | c :: r, s => endS_hd ps r (nx ps s c)
def okS (ps : List Int) (s : WSt) : Prop := s.2.1.length = ps.length ∧ s.2.2.length = ps.length
theorem nx_ok {ps : List Int} {s : WSt} (h : okS ps s) (c : Int) : okS ps (nx ps s c) := by
  have h1 := h.1
  have h2 := h.2
  have e : (dragAll ps s.2.1 c).length = ps.length := by rw [dragAll_length]; omega
  exact ⟨e, by show (fart _ _ _).length = _; rw [fart_len]; omega⟩
end M

set_option Elab.async false
set_option linter.all false
set_option maxRecDepth 100000
namespace L2
open PySem PySem.Spec PyProof.Rows

/-! ### zip of three lists: the iterators at n, n+1, n+2, their tuple at n+3, the kept tuple at n+4, the zip at n+5 -/
abbrev IsTrip (h : Heap) (T : Addr) (a b c : Value) : Prop := h.get? T = some { cls := .type "tuple", data := .seq #[a, b, c] }
section
variable {prog : Program} {w : World} {A : Around} {E : Value → Shared → Prop} {s : Shared}
theorem upd_trip {T : Addr} {a b c x : Value} {k : Nat} {Q : Unit → Shared → Prop} (hT : IsTrip s.heap T a b c)
    (h : ∀ h', h'.get? T = some { cls := .type "tuple", data := .seq ((#[a, b, c] : Array Value).setIfInBounds k x) } → Heap.SameBut T s.heap h' → Q () { s with heap := h' }) :
    wpAny (model prog w) A (updateSeq T (·.setIfInBounds k x)) Q E s := by
  refine wpAny_updateSeq hT rfl (h _ ?_ (Heap.SameBut.update ..))
  rw [Heap.get?_update_self _ hT rfl]
  simp [Obj.mapSeq]
local macro_rules | `(tactic| walk_at "ne") => `(tactic| (show @Ne Nat _ _; omega))
theorem zip3_item {n l1 l2 l3 : Nat} {k : Nat} {xs ys zs : Array Value} {x y q a b c : Value} {Q : Value → Shared → Prop} (n1 : l1 < n) (n2 : l2 < n) (n3 : l3 < n)
    (hz : IsZip s.heap (n + 5) (n + 3) (n + 4) .none) (hTI : IsTrip s.heap (n + 3) (.ref n) (.ref (n + 1)) (.ref (n + 2))) (hTO : IsTrip s.heap (n + 4) a b c)
    (h1 : s.heap.IsListIter n l1 k) (h2 : s.heap.IsListIter (n + 1) l2 k) (h3 : s.heap.IsListIter (n + 2) l3 k) (hl1 : s.heap.IsList l1 xs) (hl2 : s.heap.IsList l2 ys) (hl3 : s.heap.IsList l3 zs) (hx : xs[k]? = some x) (hy : ys[k]? = some y) (hq : zs[k]? = some q)
    (hQ : ∀ h', IsZip h' (n + 5) (n + 3) (n + 4) (rawInt s.heap.objs.size) → IsTrip h' (n + 4) x y q → h'.IsListIter n l1 (k + 1) → h'.IsListIter (n + 1) l2 (k + 1) → h'.IsListIter (n + 2) l3 (k + 1) → IsTrip h' s.heap.objs.size x y q →
      (∀ d o, d ≠ n → d ≠ n + 1 → d ≠ n + 2 → d ≠ n + 4 → d ≠ n + 5 → s.heap.get? d = some o → h'.get? d = some o) → Q (.ref s.heap.objs.size) { s with heap := h' }) :
    wpAny (model prog w) A (Builtin.«zip.__next__» ⟨[.ref (n + 5)], []⟩) (fun fin s' => ∃ v, fin = .done (.ret v) ∧ Q v s') E s := by
  show wpAny _ _ (field (.ref (n + 5)) 2 >>= _) _ _ _
  refine wpAny_bind (wpAny_field hz rfl (x := .bool false) rfl ?_)
  show wpAny _ _ (field (.ref (n + 5)) 3 >>= _) _ _ _
  refine wpAny_bind (wpAny_field hz rfl (x := .ref (n + 3)) rfl ?_)
  refine wpAny_bind (wpAny_seqItems hTI rfl ?_)
  show wpAny _ _ (Builtin.SmallTypes.ownedTupleIsFree (.ref (n + 5)) >>= _) _ _ _
  refine wpAny_bind ?_
  unfold Builtin.SmallTypes.ownedTupleIsFree
  refine wpAny_bind (wpAny_field hz rfl (x := .none) rfl (wpAny_pure ?_))
  simp only [if_true]
  refine wpAny_bind (wpAny_rule ?_)
  refine wpAny_bind (wpAny_field hz rfl (x := .ref (n + 4)) rfl ?_)
  refine wpAny_bind (wpAny_setField_rec hz (by simp) fun g1 hz1 t1 => ?_)
  replace hz1 : IsZip g1 (n + 5) (n + 3) (n + 4) .ellipsis := hz1
  refine wpAny_bind ?_
  simp only [List.zipIdx_cons, List.zipIdx_nil, List.forIn_cons, List.forIn_nil]
  refine wpAny_bind (wpAny_bind (wpAny_onRaise ?_))
  show wpAny _ _ (Builtin.SmallTypes.nextOf (.ref n) >>= _) _ _ _
  refine wpAny_bind (wpAny_nextOf_list_item (h1.extBut t1.extBut (by walk_at "ne")) (hl1.extBut t1.extBut (by walk_at "ne")) hx fun g2 u1 t2 => wpAny_pure ?_)
  have o2 : IsTrip g2 (n + 4) a b c := t2.extBut _ _ (by walk_at "ne") (t1.extBut _ _ (by walk_at "ne") hTO)
  refine wpAny_bind (wpAny_seqItems o2 rfl ?_)
  refine wpAny_bind (upd_trip o2 fun g3 o3 t3 => ?_)
  replace o3 : IsTrip g3 (n + 4) x b c := o3
  refine wpAny_bind (wpAny_letGo (wpAny_pure ?_))
  refine wpAny_bind (wpAny_bind (wpAny_onRaise ?_))
  show wpAny _ _ (Builtin.SmallTypes.nextOf (.ref (n + 1)) >>= _) _ _ _
  refine wpAny_bind (wpAny_nextOf_list_item (((h2.extBut t1.extBut (by walk_at "ne")).extBut t2.extBut (by walk_at "ne")).extBut t3.extBut (by walk_at "ne")) (((hl2.extBut t1.extBut (by walk_at "ne")).extBut t2.extBut (by walk_at "ne")).extBut t3.extBut (by walk_at "ne")) hy fun g4 u2 t4 => wpAny_pure ?_)
  have o4 : IsTrip g4 (n + 4) x b c := t4.extBut _ _ (by walk_at "ne") o3
  refine wpAny_bind (wpAny_seqItems o4 rfl ?_)
  refine wpAny_bind (upd_trip o4 fun g5 o5 t5 => ?_)
  replace o5 : IsTrip g5 (n + 4) x y c := o5
  refine wpAny_bind (wpAny_letGo (wpAny_pure ?_))
  refine wpAny_bind (wpAny_bind (wpAny_onRaise ?_))
  show wpAny _ _ (Builtin.SmallTypes.nextOf (.ref (n + 2)) >>= _) _ _ _
  refine wpAny_bind (wpAny_nextOf_list_item (((((h3.extBut t1.extBut (by walk_at "ne")).extBut t2.extBut (by walk_at "ne")).extBut t3.extBut (by walk_at "ne")).extBut t4.extBut (by walk_at "ne")).extBut t5.extBut (by walk_at "ne")) (((((hl3.extBut t1.extBut (by walk_at "ne")).extBut t2.extBut (by walk_at "ne")).extBut t3.extBut (by walk_at "ne")).extBut t4.extBut (by walk_at "ne")).extBut t5.extBut (by walk_at "ne")) hq fun g6 u3 t6 => wpAny_pure ?_)
  have o6 : IsTrip g6 (n + 4) x y c := t6.extBut _ _ (by walk_at "ne") o5
  refine wpAny_bind (wpAny_seqItems o6 rfl ?_)
  refine wpAny_bind (upd_trip o6 fun g7 o7 t7 => ?_)
  replace o7 : IsTrip g7 (n + 4) x y q := o7
  refine wpAny_bind (wpAny_letGo (wpAny_pure (wpAny_pure ?_)))
  refine wpAny_bind (wpAny_seqItems o7 rfl ?_)
  refine wpAny_bind (wpAny_newTuple ?_)
  have hsz : g7.objs.size = s.heap.objs.size := by rw [t7.1, t6.1, t5.1, t4.1, t3.1, t2.1, t1.1]
  have z7 : IsZip g7 (n + 5) (n + 3) (n + 4) .ellipsis := t7.extBut _ _ (by walk_at "ne") (t6.extBut _ _ (by walk_at "ne") (t5.extBut _ _ (by walk_at "ne") (t4.extBut _ _ (by walk_at "ne") (t3.extBut _ _ (by walk_at "ne") (t2.extBut _ _ (by walk_at "ne") hz1)))))
  have hk7 : ∀ d o, d ≠ n → d ≠ n + 1 → d ≠ n + 2 → d ≠ n + 4 → d ≠ n + 5 → s.heap.get? d = some o → g7.get? d = some o := fun d o d1 d2 d3 d4 d5 e =>
    t7.extBut _ _ d4 (t6.extBut _ _ d3 (t5.extBut _ _ d4 (t4.extBut _ _ d2 (t3.extBut _ _ d4 (t2.extBut _ _ d1 (t1.extBut _ _ d5 e))))))
  have v1 : g7.IsListIter n l1 (k + 1) := ((((u1.extBut t3.extBut (by walk_at "ne")).extBut t4.extBut (by walk_at "ne")).extBut t5.extBut (by walk_at "ne")).extBut t6.extBut (by walk_at "ne")).extBut t7.extBut (by walk_at "ne")
  have v2 : g7.IsListIter (n + 1) l2 (k + 1) := ((u2.extBut t5.extBut (by walk_at "ne")).extBut t6.extBut (by walk_at "ne")).extBut t7.extBut (by walk_at "ne")
  have v3 : g7.IsListIter (n + 2) l3 (k + 1) := u3.extBut t7.extBut (by walk_at "ne")
  have lz : n + 5 < g7.objs.size := Heap.lt_size z7
  show wpAny _ _ (Builtin.SmallTypes.ownedTupleHandOut (.ref (n + 5)) (.ref g7.objs.size) >>= _) _ _ _
  refine wpAny_bind ?_
  unfold Builtin.SmallTypes.ownedTupleHandOut
  have z8 : IsZip (g7.push { cls := .type "tuple", data := .seq #[x, y, q] }) (n + 5) (n + 3) (n + 4) .ellipsis := Heap.get?_push_of_some _ z7
  refine wpAny_bind (wpAny_setField_rec z8 (by simp) fun g9 z9 t9 => ?_)
  replace z9 : IsZip g9 (n + 5) (n + 3) (n + 4) (rawInt g7.objs.size) := z9
  refine wpAny_setField_rec z9 (by simp) fun g10 z10 t10 => ?_
  replace z10 : IsZip g10 (n + 5) (n + 3) (n + 4) (rawInt g7.objs.size) := z10
  have up : ∀ d o, d ≠ n + 5 → g7.get? d = some o → g10.get? d = some o := fun d o d1 e => t10.extBut _ _ d1 (t9.extBut _ _ d1 (Heap.get?_push_of_some _ e))
  have hT : IsTrip g10 g7.objs.size x y q := t10.extBut _ _ (Nat.ne_of_gt lz) (t9.extBut _ _ (Nat.ne_of_gt lz) (Heap.get?_push_size _ rfl))
  rw [hsz] at z10 hT ⊢
  refine wpAny_pure ⟨_, rfl, ?_⟩
  exact hQ g10 z10 (up _ _ (by walk_at "ne") o7) (v1.at fun o e => up _ o (by walk_at "ne") e) (v2.at fun o e => up _ o (by walk_at "ne") e) (v3.at fun o e => up _ o (by walk_at "ne") e) hT fun d o d1 d2 d3 d4 d5 e => up d o d5 (hk7 d o d1 d2 d3 d4 d5 e)
end
end L2
namespace L2
open PySem PySem.Spec PyProof.Rows
local macro_rules | `(tactic| walk_at "ne") => `(tactic| (show @Ne Nat _ _; omega))
section
variable {prog : Program} {w : World} {A : Around} {E : Value → Shared → Prop} {s : Shared}
theorem zip3_end {n l1 l2 l3 : Nat} {k : Nat} {xs ys zs : Array Value} {a b c : Value} {Q : Fin → Shared → Prop} (hh : A.handled = none) (n1 : l1 < n) (n2 : l2 < n) (n3 : l3 < n)
    (hz : IsZip s.heap (n + 5) (n + 3) (n + 4) .none) (hTI : IsTrip s.heap (n + 3) (.ref n) (.ref (n + 1)) (.ref (n + 2))) (hTO : IsTrip s.heap (n + 4) a b c)
    (h1 : s.heap.IsListIter n l1 k) (h2 : s.heap.IsListIter (n + 1) l2 k) (h3 : s.heap.IsListIter (n + 2) l3 k) (hl1 : s.heap.IsList l1 xs) (hl2 : s.heap.IsList l2 ys) (hl3 : s.heap.IsList l3 zs) (hend : xs[k]? = none ∨ ys[k]? = none ∨ zs[k]? = none)
    (hE : ∀ h' e, (∀ d o, d ≠ n → d ≠ n + 1 → d ≠ n + 2 → d ≠ n + 4 → d ≠ n + 5 → s.heap.get? d = some o → h'.get? d = some o) → (∃ o, h'.get? e = some o ∧ o.cls = .type "StopIteration") → E (.ref e) { s with heap := h' }) :
    wpAny (model prog w) A (Builtin.«zip.__next__» ⟨[.ref (n + 5)], []⟩) Q E s := by
  show wpAny _ _ (field (.ref (n + 5)) 2 >>= _) _ _ _
  refine wpAny_bind (wpAny_field hz rfl (x := .bool false) rfl ?_)
  show wpAny _ _ (field (.ref (n + 5)) 3 >>= _) _ _ _
  refine wpAny_bind (wpAny_field hz rfl (x := .ref (n + 3)) rfl ?_)
  refine wpAny_bind (wpAny_seqItems hTI rfl ?_)
  show wpAny _ _ (Builtin.SmallTypes.ownedTupleIsFree (.ref (n + 5)) >>= _) _ _ _
  refine wpAny_bind ?_
  unfold Builtin.SmallTypes.ownedTupleIsFree
  refine wpAny_bind (wpAny_field hz rfl (x := .none) rfl (wpAny_pure ?_))
  simp only [if_true]
  refine wpAny_bind (wpAny_rule ?_)
  refine wpAny_bind (wpAny_field hz rfl (x := .ref (n + 4)) rfl ?_)
  refine wpAny_bind (wpAny_setField_rec hz (by simp) fun g1 hz1 t1 => ?_)
  replace hz1 : IsZip g1 (n + 5) (n + 3) (n + 4) .ellipsis := hz1
  refine wpAny_bind ?_
  simp only [List.zipIdx_cons, List.zipIdx_nil, List.forIn_cons, List.forIn_nil]
  refine wpAny_bind (wpAny_bind (wpAny_onRaise ?_))
  show wpAny _ _ (Builtin.SmallTypes.nextOf (.ref n) >>= _) _ _ _
  cases hx : xs[k]? with
  | none =>
    refine wpAny_bind (wpAny_nextOf_list_end hh (h1.extBut t1.extBut (by walk_at "ne")) (hl1.extBut t1.extBut (by walk_at "ne")) hx fun g2 e t2 he => ?_)
    obtain ⟨oe, hoe, hce⟩ := he
    have hz2 : IsZip g2 (n + 5) (n + 3) (n + 4) .ellipsis := t2 _ _ (by walk_at "ne") hz1
    have hez : e ≠ n + 5 := fun x => by subst x; rw [hz2] at hoe; cases hoe; simp at hce
    exact wpAny_setField_rec hz2 (by simp) fun g3 _ t3 => hE g3 e (fun d o d1 _ _ _ d5 x => t3.extBut _ _ d5 (t2 _ _ d1 (t1.extBut _ _ d5 x))) ⟨oe, t3.extBut _ _ hez hoe, hce⟩
  | some x =>
    refine wpAny_bind (wpAny_nextOf_list_item (h1.extBut t1.extBut (by walk_at "ne")) (hl1.extBut t1.extBut (by walk_at "ne")) hx fun g2 u1 t2 => wpAny_pure ?_)
    have o2 : IsTrip g2 (n + 4) a b c := t2.extBut _ _ (by walk_at "ne") (t1.extBut _ _ (by walk_at "ne") hTO)
    refine wpAny_bind (wpAny_seqItems o2 rfl ?_)
    refine wpAny_bind (upd_trip o2 fun g3 o3 t3 => ?_)
    replace o3 : IsTrip g3 (n + 4) x b c := o3
    refine wpAny_bind (wpAny_letGo (wpAny_pure ?_))
    refine wpAny_bind (wpAny_bind (wpAny_onRaise ?_))
    show wpAny _ _ (Builtin.SmallTypes.nextOf (.ref (n + 1)) >>= _) _ _ _
    have zz3 : IsZip g3 (n + 5) (n + 3) (n + 4) .ellipsis := t3.extBut _ _ (by walk_at "ne") (t2.extBut _ _ (by walk_at "ne") hz1)
    have k3 : ∀ d o, d ≠ n → d ≠ n + 4 → d ≠ n + 5 → s.heap.get? d = some o → g3.get? d = some o := fun d o d1 d4 d5 e => t3.extBut _ _ d4 (t2.extBut _ _ d1 (t1.extBut _ _ d5 e))
    have i2 : g3.IsListIter (n + 1) l2 k := ((h2.extBut t1.extBut (by walk_at "ne")).extBut t2.extBut (by walk_at "ne")).extBut t3.extBut (by walk_at "ne")
    have q2 : g3.IsList l2 ys := ((hl2.extBut t1.extBut (by walk_at "ne")).extBut t2.extBut (by walk_at "ne")).extBut t3.extBut (by walk_at "ne")
    have i3 : g3.IsListIter (n + 2) l3 k := ((h3.extBut t1.extBut (by walk_at "ne")).extBut t2.extBut (by walk_at "ne")).extBut t3.extBut (by walk_at "ne")
    have q3 : g3.IsList l3 zs := ((hl3.extBut t1.extBut (by walk_at "ne")).extBut t2.extBut (by walk_at "ne")).extBut t3.extBut (by walk_at "ne")
    cases hy : ys[k]? with
    | none =>
      refine wpAny_bind (wpAny_nextOf_list_end hh i2 q2 hy fun g4 e t4 he => ?_)
      obtain ⟨oe, hoe, hce⟩ := he
      have hz4 : IsZip g4 (n + 5) (n + 3) (n + 4) .ellipsis := t4 _ _ (by walk_at "ne") zz3
      have hez : e ≠ n + 5 := fun x => by subst x; rw [hz4] at hoe; cases hoe; simp at hce
      exact wpAny_setField_rec hz4 (by simp) fun g5 _ t5 => hE g5 e (fun d o d1 d2 _ d4 d5 x => t5.extBut _ _ d5 (t4 _ _ d2 (k3 d o d1 d4 d5 x))) ⟨oe, t5.extBut _ _ hez hoe, hce⟩
    | some y =>
      have hq : zs[k]? = none := by
        rcases hend with h | h | h
        · rw [hx] at h; cases h
        · rw [hy] at h; cases h
        · exact h
      refine wpAny_bind (wpAny_nextOf_list_item i2 q2 hy fun g4 u2 t4 => wpAny_pure ?_)
      have o4 : IsTrip g4 (n + 4) x b c := t4.extBut _ _ (by walk_at "ne") o3
      refine wpAny_bind (wpAny_seqItems o4 rfl ?_)
      refine wpAny_bind (upd_trip o4 fun g5 o5 t5 => ?_)
      refine wpAny_bind (wpAny_letGo (wpAny_pure ?_))
      refine wpAny_bind (wpAny_bind (wpAny_onRaise ?_))
      show wpAny _ _ (Builtin.SmallTypes.nextOf (.ref (n + 2)) >>= _) _ _ _
      refine wpAny_bind (wpAny_nextOf_list_end hh ((i3.extBut t4.extBut (by walk_at "ne")).extBut t5.extBut (by walk_at "ne")) ((q3.extBut t4.extBut (by walk_at "ne")).extBut t5.extBut (by walk_at "ne")) hq fun g6 e t6 he => ?_)
      obtain ⟨oe, hoe, hce⟩ := he
      have hz6 : IsZip g6 (n + 5) (n + 3) (n + 4) .ellipsis := t6 _ _ (by walk_at "ne") (t5.extBut _ _ (by walk_at "ne") (t4.extBut _ _ (by walk_at "ne") zz3))
      have hez : e ≠ n + 5 := fun x => by subst x; rw [hz6] at hoe; cases hoe; simp at hce
      exact wpAny_setField_rec hz6 (by simp) fun g7 _ t7 => hE g7 e (fun d o d1 d2 d3 d4 d5 x => t7.extBut _ _ d5 (t6 _ _ d3 (t5.extBut _ _ d4 (t4.extBut _ _ d2 (k3 d o d1 d4 d5 x))))) ⟨oe, t7.extBut _ _ hez hoe, hce⟩
theorem next_zip3 {n l1 l2 l3 : Nat} {k : Nat} {xs ys zs : Array Value} {x y q a b c : Value} {Q : Option Value → Shared → Prop} (n1 : l1 < n) (n2 : l2 < n) (n3 : l3 < n)
    (hz : IsZip s.heap (n + 5) (n + 3) (n + 4) .none) (hTI : IsTrip s.heap (n + 3) (.ref n) (.ref (n + 1)) (.ref (n + 2))) (hTO : IsTrip s.heap (n + 4) a b c)
    (h1 : s.heap.IsListIter n l1 k) (h2 : s.heap.IsListIter (n + 1) l2 k) (h3 : s.heap.IsListIter (n + 2) l3 k) (hl1 : s.heap.IsList l1 xs) (hl2 : s.heap.IsList l2 ys) (hl3 : s.heap.IsList l3 zs) (hx : xs[k]? = some x) (hy : ys[k]? = some y) (hq : zs[k]? = some q)
    (hQ : ∀ h', IsZip h' (n + 5) (n + 3) (n + 4) (rawInt s.heap.objs.size) → IsTrip h' (n + 4) x y q → h'.IsListIter n l1 (k + 1) → h'.IsListIter (n + 1) l2 (k + 1) → h'.IsListIter (n + 2) l3 (k + 1) → IsTrip h' s.heap.objs.size x y q →
      (∀ d o, d ≠ n → d ≠ n + 1 → d ≠ n + 2 → d ≠ n + 4 → d ≠ n + 5 → s.heap.get? d = some o → h'.get? d = some o) → Q (some (.ref s.heap.objs.size)) { s with heap := h' }) :
    wpAny (model prog w) A (pyNext (.ref (n + 5))) Q E s := by
  have hT : s.TypeIs (.ref (n + 5)) "zip" := ⟨_, hz, rfl⟩
  unfold pyNext
  exact wpAny_bind (wpAny_attempt (wpAny_callSpecial?_slot (name := Str.ofString "__next__") hT F.slot_zip_next
    (wpAny_call_entry F.slot_zip_next hT F.entry_zip_next
      (zip3_item n1 n2 n3 hz hTI hTO h1 h2 h3 hl1 hl2 hl3 hx hy hq fun h' a1 a2 a3 a4 a5 a6 a7 => wpAny_pure (hQ h' a1 a2 a3 a4 a5 a6 a7)) (F.args_zip_next_1 _))))
theorem next_zip3_end {n l1 l2 l3 : Nat} {k : Nat} {xs ys zs : Array Value} {a b c : Value} {Q : Option Value → Shared → Prop} (hh : A.handled = none) (n1 : l1 < n) (n2 : l2 < n) (n3 : l3 < n)
    (hz : IsZip s.heap (n + 5) (n + 3) (n + 4) .none) (hTI : IsTrip s.heap (n + 3) (.ref n) (.ref (n + 1)) (.ref (n + 2))) (hTO : IsTrip s.heap (n + 4) a b c)
    (h1 : s.heap.IsListIter n l1 k) (h2 : s.heap.IsListIter (n + 1) l2 k) (h3 : s.heap.IsListIter (n + 2) l3 k) (hl1 : s.heap.IsList l1 xs) (hl2 : s.heap.IsList l2 ys) (hl3 : s.heap.IsList l3 zs) (hend : xs[k]? = none ∨ ys[k]? = none ∨ zs[k]? = none)
    (hQ : ∀ h', (∀ d o, d ≠ n → d ≠ n + 1 → d ≠ n + 2 → d ≠ n + 4 → d ≠ n + 5 → s.heap.get? d = some o → h'.get? d = some o) → Q none { s with heap := h' }) : wpAny (model prog w) A (pyNext (.ref (n + 5))) Q E s := by
  have hT : s.TypeIs (.ref (n + 5)) "zip" := ⟨_, hz, rfl⟩
  unfold pyNext
  refine wpAny_bind (wpAny_attempt (wpAny_callSpecial?_slot (name := Str.ofString "__next__") hT F.slot_zip_next
    (wpAny_call_entry F.slot_zip_next hT F.entry_zip_next (zip3_end hh n1 n2 n3 hz hTI hTO h1 h2 h3 hl1 hl2 hl3 hend fun h' e hk he => ?_) (F.args_zip_next_1 _))))
  obtain ⟨o, ho, hc⟩ := he
  refine wpAny_bind (wpAny_isInstance (T := "StopIteration") (b := true) ⟨o, ho, hc⟩ isSubtype_stop ?_)
  exact wpAny_pure (hQ _ hk)
end

/-! ### the call zip(a, b, c) -/
theorem typeCall_zip3 (a b c : Value) : checkTypeCall "zip" ⟨[a, b, c], []⟩ = pure () := by kernel_rfl
theorem newCall_zip3 (a b c : Value) : checkBuiltinCall "zip.__new__" ⟨[.type "zip", a, b, c], []⟩ = pure () := by kernel_rfl
theorem initArgs4 (o a b c : Value) : argsOk "object.__init__" ⟨[o, a, b, c], []⟩ := by
  unfold argsOk; rw [signature?_of (id := "object.__init__") (n := ['_', '_', 't', 'i', 'n', 'i', '_', '_']) (o := ['t', 'c', 'e', 'j', 'b', 'o']) (by kernel_rfl) PySem.F.owner_object]; kernel_rfl
abbrev z3H1 (h : Heap) (l1 : Addr) : Heap := h.push { cls := .type "list_iterator", data := .fields #[.ref l1, .int 0 0] }
abbrev z3H2 (h : Heap) (l1 l2 : Addr) : Heap := (z3H1 h l1).push { cls := .type "list_iterator", data := .fields #[.ref l2, .int 0 0] }
abbrev z3H3 (h : Heap) (l1 l2 l3 : Addr) : Heap := (z3H2 h l1 l2).push { cls := .type "list_iterator", data := .fields #[.ref l3, .int 0 0] }
abbrev z3H4 (h : Heap) (l1 l2 l3 : Addr) : Heap := (z3H3 h l1 l2 l3).push { cls := .type "tuple", data := .seq #[.ref h.objs.size, .ref (z3H1 h l1).objs.size, .ref (z3H2 h l1 l2).objs.size] }
abbrev z3H5 (h : Heap) (l1 l2 l3 : Addr) : Heap := (z3H4 h l1 l2 l3).push { cls := .type "tuple", data := .seq #[.none, .none, .none] }
abbrev z3H6 (h : Heap) (l1 l2 l3 : Addr) : Heap := (z3H5 h l1 l2 l3).push { cls := .type "zip", data := .fields #[.none, .bool false, .bool false, .ref (z3H3 h l1 l2 l3).objs.size, .ref (z3H4 h l1 l2 l3).objs.size] }
set_option maxHeartbeats 4000000 in
theorem meets_zip3 (l1 l2 l3 : Addr) (xs ys zs : Array Value) :
    Meets (Builtin.«zip.__new__» ⟨[.type "zip", .ref l1, .ref l2, .ref l3], []⟩) (fun _ R s => s.heap.IsList l1 xs ∧ s.heap.IsList l2 ys ∧ s.heap.IsList l3 zs ∧
      R (.ok (.ret (.ref (z3H5 s.heap l1 l2 l3).objs.size))) { s with heap := z3H6 s.heap l1 l2 l3 }) :=
  .of_wp fun prog w A R s h => by
    obtain ⟨hp, g, d, tk, os⟩ := s; obtain ⟨hl1, hl2, hl3, h⟩ := h
    have hsub := sub_zip
    have hL1 : Heap.IsList (Shared.heap ⟨hp, g, d, tk, os⟩) l1 xs := hl1
    have hL2 : Heap.IsList (Shared.heap ⟨hp.push { cls := .type "list_iterator", data := .fields #[.ref l1, .int 0 0] }, g, d, tk, os⟩) l2 ys := Heap.IsList.push hl2 _
    have hL3 : Heap.IsList (Shared.heap ⟨(hp.push { cls := .type "list_iterator", data := .fields #[.ref l1, .int 0 0] }).push { cls := .type "list_iterator", data := .fields #[.ref l2, .int 0 0] }, g, d, tk, os⟩) l3 zs := Heap.IsList.push (Heap.IsList.push hl3 _) _
    wp_walk using wpAny_pyIter_list hL1, wpAny_pyIter_list hL2, wpAny_pyIter_list hL3
    exact ⟨_, rfl, h⟩
section
variable {prog : Program} {w : World} {A : Around} {E : Value → Shared → Prop} {s : Shared}
theorem call_zip3 {l1 l2 l3 : Addr} {xs ys zs : Array Value} {Q : Value → Shared → Prop} (hl1 : s.heap.IsList l1 xs) (hl2 : s.heap.IsList l2 ys) (hl3 : s.heap.IsList l3 zs)
    (h : ∀ h', IsZip h' (s.heap.objs.size + 5) (s.heap.objs.size + 3) (s.heap.objs.size + 4) .none → IsTrip h' (s.heap.objs.size + 3) (.ref s.heap.objs.size) (.ref (s.heap.objs.size + 1)) (.ref (s.heap.objs.size + 2)) →
      IsTrip h' (s.heap.objs.size + 4) .none .none .none → h'.IsListIter s.heap.objs.size l1 0 → h'.IsListIter (s.heap.objs.size + 1) l2 0 → h'.IsListIter (s.heap.objs.size + 2) l3 0 →
      (∀ c o, s.heap.get? c = some o → h'.get? c = some o) → Q (.ref (s.heap.objs.size + 5)) { s with heap := h' }) :
    wpAny (model prog w) A (call (.type "zip") [.ref l1, .ref l2, .ref l3]) Q E s := by
  refine callType_new F.called_zip (by decide) (typeCall_zip3 _ _ _) (newCall_zip3 _ _ _) (fun obj => initArgs4 obj _ _ _) F.entry_zip_new
    (meets_zip3 l1 l2 l3 xs ys zs) ⟨hl1, hl2, hl3, ?_⟩
  have z1 : (z3H1 s.heap l1).objs.size = s.heap.objs.size + 1 := Heap.size_push ..
  have z2 : (z3H2 s.heap l1 l2).objs.size = s.heap.objs.size + 2 := by rw [Heap.size_push, z1]
  have z3 : (z3H3 s.heap l1 l2 l3).objs.size = s.heap.objs.size + 3 := by rw [Heap.size_push, z2]
  have z4 : (z3H4 s.heap l1 l2 l3).objs.size = s.heap.objs.size + 4 := by rw [Heap.size_push, z3]
  have z5 : (z3H5 s.heap l1 l2 l3).objs.size = s.heap.objs.size + 5 := by rw [Heap.size_push, z4]
  have g6 : (z3H6 s.heap l1 l2 l3).get? (z3H5 s.heap l1 l2 l3).objs.size = some _ := Heap.get?_push_size _ rfl
  have g5 : (z3H6 s.heap l1 l2 l3).get? (z3H4 s.heap l1 l2 l3).objs.size = some _ := Heap.get?_push_of_some _ (Heap.get?_push_size _ rfl)
  have g4 : (z3H6 s.heap l1 l2 l3).get? (z3H3 s.heap l1 l2 l3).objs.size = some _ := Heap.get?_push_of_some _ (Heap.get?_push_of_some _ (Heap.get?_push_size _ rfl))
  have g3 : (z3H6 s.heap l1 l2 l3).get? (z3H2 s.heap l1 l2).objs.size = some _ := Heap.get?_push_of_some _ (Heap.get?_push_of_some _ (Heap.get?_push_of_some _ (Heap.get?_push_size _ rfl)))
  have g2 : (z3H6 s.heap l1 l2 l3).get? (z3H1 s.heap l1).objs.size = some _ := Heap.get?_push_of_some _ (Heap.get?_push_of_some _ (Heap.get?_push_of_some _ (Heap.get?_push_of_some _ (Heap.get?_push_size _ rfl))))
  have g1 : (z3H6 s.heap l1 l2 l3).get? s.heap.objs.size = some _ := Heap.get?_push_of_some _ (Heap.get?_push_of_some _ (Heap.get?_push_of_some _ (Heap.get?_push_of_some _ (Heap.get?_push_of_some _ (Heap.get?_push_size _ rfl)))))
  show _ ∧ _
  rw [z3, z4, z5] at g6
  rw [z4] at g5
  rw [z1, z2, z3] at g4
  rw [z2] at g3
  rw [z1] at g2
  rw [z5]
  exact ⟨⟨_, g6, rfl⟩, h _ g6 g4 g5 ⟨_, g1, rfl, rfl⟩ ⟨_, g2, rfl, rfl⟩ ⟨_, g3, rfl, rfl⟩ fun c o x =>
    Heap.get?_push_of_some _ (Heap.get?_push_of_some _ (Heap.get?_push_of_some _ (Heap.get?_push_of_some _ (Heap.get?_push_of_some _ (Heap.get?_push_of_some _ x)))))⟩
end
def It3 (K : PySem.W.Frag) (a b c : Addr) : It :=
  ⟨fun i H => ∃ xs ys zs x y q, SqL K H a xs ∧ SqL K H b ys ∧ SqL K H c zs ∧ xs[i]? = some x ∧ ys[i]? = some y ∧ zs[i]? = some q,
   fun i H v H' => ∃ T x y q, v = .ref T ∧ H T = none ∧ H' = upd H T (.tup [x, y, q]) ∧ (∀ xs, SqL K H a xs → xs[i]? = some x) ∧ (∀ ys, SqL K H b ys → ys[i]? = some y) ∧ ∀ zs, SqL K H c zs → zs[i]? = some q,
   fun i H => ∃ xs ys zs, SqL K H a xs ∧ SqL K H b ys ∧ SqL K H c zs ∧ (xs.length ≤ i ∨ ys.length ≤ i ∨ zs.length ≤ i)⟩
def Zip3St (n a b c : Nat) (i : Nat) (h : Heap) : Prop := IsZip h (n + 5) (n + 3) (n + 4) .none ∧ IsTrip h (n + 3) (.ref n) (.ref (n + 1)) (.ref (n + 2)) ∧ (∃ u v w, IsTrip h (n + 4) u v w) ∧ h.IsListIter n a i ∧ h.IsListIter (n + 1) b i ∧ h.IsListIter (n + 2) c i
theorem turn_zip3 {P : Program} {w : World} {K : PySem.W.Frag} {elts : List Expr} {kk : Nat} {tp : Pos} {n a b c : Nat} (n1 : a < n) (n2 : b < n) (n3 : c < n) :
    Turn P w K (.Tuple elts kk tp) (It3 K a b c) [n + 5, n + 3, n + 4, n, n + 1, n + 2] (n + 5) (Zip3St n a b c) where
  mem := by simp
  obj := fun i h st d hd => by
    obtain ⟨h1, h2, ⟨u, v, w', h3⟩, ⟨o1, e1, _, d1⟩, ⟨o2, e2, _, d2⟩, ⟨o3, e3, _, d3⟩⟩ := st
    simp only [List.mem_cons, List.not_mem_nil, or_false] at hd
    rcases hd with rfl | rfl | rfl | rfl | rfl | rfl
    · exact ⟨_, h1, fun v z => by cases (show Data.fields _ = Data.cell v from z)⟩
    · exact ⟨_, h2, fun v z => by cases (show Data.seq _ _ = Data.cell v from z)⟩
    · exact ⟨_, h3, fun v z => by cases (show Data.seq _ _ = Data.cell v from z)⟩
    · exact ⟨_, e1, fun v z => by rw [d1] at z; cases z⟩
    · exact ⟨_, e2, fun v z => by rw [d2] at z; cases z⟩
    · exact ⟨_, e3, fun v z => by rw [d3] at z; cases z⟩
  keep := fun i h h' st k => by
    obtain ⟨h1, h2, ⟨u, v, w', h3⟩, h4, h5, h6⟩ := st
    exact ⟨k _ (by simp) _ h1, k _ (by simp) _ h2, ⟨u, v, w', k _ (by simp) _ h3⟩, h4.at fun o e => k _ (by simp) o e, h5.at fun o e => k _ (by simp) o e, h6.at fun o e => k _ (by simp) o e⟩
  item := by
    intro X hP hw hK hc i pins s σ H E I hf st hg
    subst hP hw hK
    obtain ⟨xs, ys, zs, x, y, q, hx, hy, hq, ex, ey, eq⟩ := hg
    obtain ⟨h1, h2, ⟨u, v, w', h3⟩, h4, h5, h6⟩ := st
    obtain ⟨its, rv, p, hz⟩ := I.list hx
    obtain ⟨jts, rw', p', hz'⟩ := I.list hy
    obtain ⟨kts, rk, p'', hz''⟩ := I.list hq
    obtain ⟨ux, hux, rux⟩ := rv.get ex
    obtain ⟨uy, huy, ruy⟩ := rw'.get ey
    obtain ⟨uq, huq, ruq⟩ := rk.get eq
    refine next_zip3 n1 n2 n3 h1 h2 h3 h4 h5 h6 p.isList p'.isList p''.isList (x := ux) (y := uy) (q := uq) (by simpa using hux) (by simpa using huy) (by simpa using huq) fun h' a1 a2 a3 a4 a5 a6 a7 => ?_
    have ln : n + 5 < s.heap.objs.size := Heap.lt_size h1
    have lt : ∀ d ∈ [n + 5, n + 3, n + 4, n, n + 1, n + 2], d < s.heap.objs.size := fun d hd => by
      simp only [List.mem_cons, List.not_mem_nil, or_false] at hd
      rcases hd with rfl | rfl | rfl | rfl | rfl | rfl <;> omega
    refine ⟨_, rfl, wpAny_letOwnedTupleGo_zip a1 fun h2' b1 b2 => ?_⟩
    have hk : ∀ d o, d ∉ [n + 5, n + 3, n + 4, n, n + 1, n + 2] → s.heap.get? d = some o → h2'.get? d = some o := fun d o hd e => by
      simp only [List.mem_cons, List.not_mem_nil, or_false, not_or] at hd
      exact (b2.2 d hd.1).trans (a7 d o hd.2.2.2.1 hd.2.2.2.2.1 hd.2.2.2.2.2 hd.2.2.1 hd.1 e)
    have I1 := I.turnT (h' := h2') (t' := s.toks) (T := s.heap.objs.size) (xs := [x, y, q]) (its := [ux, uy, uq]) hf hk (Nat.le_refl _) (szl (Nat.le_of_ble_eq_true rfl)) (.cons rux (.cons ruy (.cons ruq .nil))) ⟨_, (b2.2 _ (by show @Ne Nat _ _; omega)).trans a6, rfl, _, rfl⟩
    refine ⟨.ref s.heap.objs.size, _, I1, rfl, ⟨_, x, y, q, rfl, I.hok.fresh (Nat.le_refl _), rfl, fun xs' h => by rw [I.list_inj h hx]; exact ex, fun ys' h => by rw [I.list_inj h hy]; exact ey, fun zs' h => by rw [I.list_inj h hq]; exact eq⟩, ?_, fun d hd => ?_⟩
    · exact ⟨b1, (b2.2 _ (by show @Ne Nat _ _; omega)).trans (a7 _ _ (by show @Ne Nat _ _; omega) (by show @Ne Nat _ _; omega) (by show @Ne Nat _ _; omega) (by show @Ne Nat _ _; omega) (by show @Ne Nat _ _; omega) h2), ⟨_, _, _, (b2.2 _ (by show @Ne Nat _ _; omega)).trans a2⟩, a3.at fun o e => (b2.2 _ (by show @Ne Nat _ _; omega)).trans e, a4.at fun o e => (b2.2 _ (by show @Ne Nat _ _; omega)).trans e, a5.at fun o e => (b2.2 _ (by show @Ne Nat _ _; omega)).trans e⟩
    · rw [upd_ne (Nat.ne_of_lt (lt d hd))]
      exact (hf d hd).1
  done := by
    intro X hP hw hK hc i pins s σ H E I hf st hg
    subst hP hw hK
    obtain ⟨xs, ys, zs, hx, hy, hq, hl⟩ := hg
    obtain ⟨h1, h2, ⟨u, v, w', h3⟩, h4, h5, h6⟩ := st
    obtain ⟨its, rv, p, hz⟩ := I.list hx
    obtain ⟨jts, rw', p', hz'⟩ := I.list hy
    obtain ⟨kts, rk, p'', hz''⟩ := I.list hq
    have l1 := rv.length
    have l2 := rw'.length
    have l3 := rk.length
    refine next_zip3_end (I.ok.hd hc) n1 n2 n3 h1 h2 h3 h4 h5 h6 p.isList p'.isList p''.isList ?_ fun h' hk => ⟨rfl, ?_⟩
    · rcases hl with hl | hl | hl
      · left; simp; omega
      · right; left; simp; omega
      · right; right; simp; omega
    · exact I.turnedL (t' := s.toks) hf fun d o hd e => by
        simp only [List.mem_cons, List.not_mem_nil, or_false, not_or] at hd
        exact hk d o hd.2.2.2.1 hd.2.2.2.2.1 hd.2.2.2.2.2 hd.2.2.1 hd.1 e
  self := fun A i s Q E st h => wpAny_pyIter_zip st.1 h
def iZip3 (K : PySem.W.Frag) (ta : TA) : TI := fun σ H R => ta σ H fun vs H1 => ∃ a b c, vs = [.ref a, .ref b, .ref c] ∧ (∃ xs, SqL K H1 a xs) ∧ (∃ ys, SqL K H1 b ys) ∧ (∃ zs, SqL K H1 c zs) ∧ R (It3 K a b c) H1
section
variable {X : Cx} {elts : List Expr} {kk : Nat} {tp : Pos}
theorem pi_zip3 {a b c : Expr} {ta : TA} {p pos : Pos} (hg : Gl X "zip") (hm : X.mg "zip" = none) (ha : PA X [a, b, c] ta) (hs : starEach [a, b, c] X.env = [(false, eval a X.env), (false, eval b X.env), (false, eval c X.env)] := by rfl) (hs2 : starEach [b, c] X.env = [(false, eval b X.env), (false, eval c X.env)] := by rfl) :
    PI X (.Tuple elts kk tp) (.Call (.Name "zip" p) [a, b, c] [] pos) (iZip3 X.K ta) := by
  intro pins s σ H R I h
  refine Call_ (ld_blt I hg hm bt_zip (PyProof.Rows.callWith_type1 (thn (ha pos pins s σ H _ I h) fun us s1 ⟨vs, H1, I1, r1, q1⟩ => ?_) (by rw [hs, hs2]) (by rw [hs2]; rfl)))
  obtain ⟨x, y, q, e, ⟨xs, hx⟩, ⟨ys, hy⟩, ⟨zs, hq⟩, R1⟩ := q1
  subst e
  cases r1 with
  | cons r rr =>
    cases rr with
    | cons r' rr =>
      cases rr with
      | cons r'' rr =>
        cases rr
        obtain ⟨its, rv, pl, hz⟩ := I1.list hx
        obtain ⟨jts, rw', ql, hz'⟩ := I1.list hy
        obtain ⟨kts, rk, kl, hz''⟩ := I1.list hq
        cases r
        cases r'
        cases r''
        have a1 : x < s1.heap.objs.size := by obtain ⟨_, e, _⟩ := pl.isList; exact Heap.lt_size e
        have a2 : y < s1.heap.objs.size := by obtain ⟨_, e, _⟩ := ql.isList; exact Heap.lt_size e
        have a3 : q < s1.heap.objs.size := by obtain ⟨_, e, _⟩ := kl.isList; exact Heap.lt_size e
        refine call_zip3 pl.isList ql.isList kl.isList fun h' b1 b2 b3 b4 b5 b6 b7 => ?_
        have I2 : Inv X pins σ H1 { s1 with heap := h' } := I1.kept (t' := s1.toks) b7
        refine wpAny_pyIter_zip (s := { s1 with heap := h' }) b1 ⟨_, _, _, _, H1, rfl, I2, turn_zip3 a1 a2 a3, ⟨b1, b2, ⟨_, _, _, b3⟩, b4, b5, b6⟩, fun c hc => ?_, R1⟩
        have hc' : s1.heap.objs.size ≤ c := by
          simp only [List.mem_cons, List.not_mem_nil, or_false] at hc
          rcases hc with rfl | rfl | rfl | rfl | rfl | rfl
          · exact Nat.le_add_right _ _
          · exact Nat.le_add_right _ _
          · exact Nat.le_add_right _ _
          · exact Nat.le_refl _
          · exact Nat.le_add_right _ _
          · exact Nat.le_add_right _ _
        exact I1.fpOk hc' (I1.hok.fresh hc')
theorem pi_zip3K (K : PySem.W.Frag) {a b c : Expr} {ta : TA} {p pos : Pos} (hg : Gl X "zip") (hm : X.mg "zip" = none) (ha : PA X [a, b, c] ta) (hs : starEach [a, b, c] X.env = [(false, eval a X.env), (false, eval b X.env), (false, eval c X.env)] := by rfl) (hs2 : starEach [b, c] X.env = [(false, eval b X.env), (false, eval c X.env)] := by rfl)
    (hK : X.K = K := by rfl) : PI X (.Tuple elts kk tp) (.Call (.Name "zip" p) [a, b, c] [] pos) (iZip3 K ta) := by subst hK; exact pi_zip3 hg hm ha hs hs2
end
section
variable {K : PySem.W.Frag} {g : TG} {ti : TT} {te : TE} {σc : St} {H : Hp} {Q : VK}
theorem cp_zip3 {a b c : Addr} {xs ys ws : List V} (Pv : Nat → List V → Hp → Prop) (h0 : Pv 0 [] H) (hl : ∀ i zs H, Pv i zs H → SqL K H a xs ∧ SqL K H b ys ∧ SqL K H c ws ∧ zs.length ≤ i) (hx : min xs.length (min ys.length ws.length) < sizeLine)
    (hs : ∀ i x y q T zs H, xs[i]? = some x → ys[i]? = some y → ws[i]? = some q → Pv i zs H → H T = none → g (.ref T) σc (upd H T (.tup [x, y, q])) fun σ2 H2 => ti σ2 H2 fun b H3 => if b = true then te σ2 H3 fun y H4 => Pv (i + 1) (zs ++ [y]) H4 else Pv (i + 1) zs H3)
    (hd : ∀ l zs H, Pv (min xs.length (min ys.length ws.length)) zs H → H l = none → Q (.ref l) (upd H l (.lst zs))) : CompI (It3 K a b c) g ti te σc H Q := by
  refine ⟨fun i m zs H => m = min xs.length (min ys.length ws.length) - i ∧ i ≤ min xs.length (min ys.length ws.length) ∧ Pv i zs H, ⟨_, rfl, Nat.zero_le _, h0⟩, ?_⟩
  rintro i m zs H ⟨rfl, hi, p⟩
  obtain ⟨q1, q2, q3, hy⟩ := hl i zs H p
  refine ⟨by omega, ?_⟩
  by_cases hlt : i < min xs.length (min ys.length ws.length)
  · have l1 : i < xs.length := by omega
    have l2 : i < ys.length := by omega
    have l3 : i < ws.length := by omega
    refine .inr ⟨⟨xs, ys, ws, xs[i], ys[i], ws[i], q1, q2, q3, by simp [l1], by simp [l2], by simp [l3]⟩, Pv (i + 1), fun σ' H' p' => ⟨_, by omega, rfl, hlt, p'⟩, fun x H' y => ?_⟩
    obtain ⟨T, x1, y1, z1, rfl, hT, rfl, ex, ey, ez⟩ := y
    exact hs i x1 y1 z1 T zs H (ex xs q1) (ey ys q2) (ez ws q3) p hT
  · have e : i = min xs.length (min ys.length ws.length) := by omega
    exact .inl ⟨⟨xs, ys, ws, q1, q2, q3, by omega⟩, fun l hl => hd l zs H (by rw [← e]; exact p) hl⟩
end
end L2

set_option Elab.async false
set_option linter.all false
namespace L2
open PySem PySem.Spec PyProof.Rows
/-! ### a comprehension within the block of another one -/
theorem nest_free {X : Cx} {scope0 : Scope} {C : Addr} {N : List Str} {s₂ : Shared} {H₂ : Hp} {ex : List Addr} {x : Str} (h : scope0.names.lookup x = some .free) : (cxC X scope0 C N s₂ H₂ ex).env.kindOf x = some .cell ∨ (cxC X scope0 C N s₂ H₂ ex).env.kindOf x = some .free := relabel_free h
theorem nest_frees {X : Cx} {scope0 scope : Scope} {C : Addr} {N : List Str} {s₂ : Shared} {H₂ : Hp} {ex : List Addr} (h : ∀ y ∈ scope.names, y.2 = .free → scope0.names.lookup y.1 = some .free) :
    ∀ y ∈ scope.names, y.2 = .free → (cxC X scope0 C N s₂ H₂ ex).env.kindOf y.1 = some .cell ∨ (cxC X scope0 C N s₂ H₂ ex).env.kindOf y.1 = some .free := fun y hy e => nest_free (h y hy e)
end L2

set_option Elab.async false
set_option linter.all false
set_option maxRecDepth 100000
namespace L2
open PySem PySem.Spec PyProof.Rows
/-! ### a comprehension whose block has cells of its own -/
theorem cellsFrom_get : ∀ (names : List (Str × NameKind)) (h : Heap) (acc : List (Str × Addr)) (x : Str) (c : Addr), (cellsFrom h.objs.size names acc).lookup x = some c →
    acc.lookup x = some c ∨ (h.objs.size ≤ c ∧ (x, NameKind.cell) ∈ names ∧ (pushCells h names).IsCell c none)
  | [], _, _, _, _, e => .inl e
  | (m, k) :: r, h, acc, x, c, e => by
    unfold cellsFrom at e
    unfold pushCells
    by_cases hk : (k == NameKind.cell) = true
    · rw [if_pos hk] at e ⊢
      have hk' : k = .cell := by simpa using hk
      subst hk'
      have hs : (h.push { cls := .type "cell", data := .cell none }).objs.size = h.objs.size + 1 := Heap.size_push ..
      rw [← hs] at e
      rcases cellsFrom_get r _ _ x c e with z | ⟨z1, z2, z3⟩
      · rw [List.lookup_cons] at z
        cases hx : x == m with
        | true =>
          rw [hx] at z
          have e1 : x = m := by simpa using hx
          cases z
          subst e1
          exact .inr ⟨Nat.le_refl _, List.mem_cons_self, (show Heap.IsCell _ _ _ from ⟨_, Heap.get?_push_size _ rfl, rfl⟩ : Heap.IsCell (h.push { cls := .type "cell", data := .cell none }) h.objs.size none).keeps (pushCells_keeps _ _)⟩
        | false =>
          rw [hx] at z
          exact .inl z
      · exact .inr ⟨by rw [hs] at z1; omega, List.mem_cons_of_mem _ z2, z3⟩
    · rw [if_neg hk] at e ⊢
      rcases cellsFrom_get r _ _ x c e with z | ⟨z1, z2, z3⟩
      · exact .inl z
      · exact .inr ⟨z1, List.mem_cons_of_mem _ z2, z3⟩
theorem cellsFrom_has : ∀ (names : List (Str × NameKind)) (n : Nat) (acc : List (Str × Addr)) (x : Str), ((x, NameKind.cell) ∈ names ∨ ∃ c, acc.lookup x = some c) → ∃ c, (cellsFrom n names acc).lookup x = some c
  | [], _, _, _, h => by
    rcases h with h | h
    · exact absurd h (by simp)
    · exact h
  | (m, k) :: r, n, acc, x, h => by
    unfold cellsFrom
    by_cases hk : (k == NameKind.cell) = true
    · rw [if_pos hk]
      refine cellsFrom_has r _ _ x ?_
      rcases h with h | ⟨c, h⟩
      · rcases List.mem_cons.mp h with e | e
        · cases e
          exact .inr ⟨n, by simp⟩
        · exact .inl e
      · refine .inr ?_
        rw [List.lookup_cons]
        cases x == m with
        | true => exact ⟨_, rfl⟩
        | false => exact ⟨c, h⟩
    · rw [if_neg hk]
      refine cellsFrom_has r _ _ x ?_
      rcases h with h | h
      · rcases List.mem_cons.mp h with e | e
        · cases e
          exact absurd rfl hk
        · exact .inl e
      · exact .inr h
theorem cellsFrom_new : ∀ (names : List (Str × NameKind)) (n0 n : Nat) (acc : List (Str × Addr)) (x : Str) (c : Addr), ((x, NameKind.cell) ∈ names ∨ ∀ c, acc.lookup x = some c → n0 ≤ c) → n0 ≤ n → (cellsFrom n names acc).lookup x = some c → n0 ≤ c
  | [], _, _, _, _, c, h, _, e => by
    rcases h with h | h
    · exact absurd h (by simp)
    · exact h c e
  | (m, k) :: r, n0, n, acc, x, c, h, hn, e => by
    unfold cellsFrom at e
    by_cases hk : (k == NameKind.cell) = true
    · rw [if_pos hk] at e
      refine cellsFrom_new r n0 (n + 1) _ x c ?_ (Nat.le_succ_of_le hn) e
      rcases h with h | h
      · rcases List.mem_cons.mp h with z | z
        · cases z
          exact .inr fun c hc => by
            simp at hc
            subst hc
            exact hn
        · exact .inl z
      · refine .inr fun c hc => ?_
        rw [List.lookup_cons] at hc
        cases hx : x == m with
        | true => rw [hx] at hc; cases hc; exact hn
        | false => rw [hx] at hc; exact h c hc
    · rw [if_neg hk] at e
      refine cellsFrom_new r n0 n _ x c ?_ hn e
      rcases h with h | h
      · rcases List.mem_cons.mp h with z | z
        · cases z
          exact absurd rfl hk
        · exact .inl z
      · exact .inr h
theorem cellsFrom_inj : ∀ (names : List (Str × NameKind)) (n : Nat) (acc : List (Str × Addr)), (∀ x y c, acc.lookup x = some c → acc.lookup y = some c → x = y) → (∀ x c, acc.lookup x = some c → c < n) →
    ∀ x y c, (cellsFrom n names acc).lookup x = some c → (cellsFrom n names acc).lookup y = some c → x = y
  | [], _, _, h, _ => h
  | (m, k) :: r, n, acc, h, hl => by
    intro x y c e1 e2
    unfold cellsFrom at e1 e2
    by_cases hk : (k == NameKind.cell) = true
    · rw [if_pos hk] at e1 e2
      refine cellsFrom_inj r (n + 1) _ ?_ ?_ x y c e1 e2
      · intro x y c h1 h2
        rw [List.lookup_cons] at h1 h2
        cases hx : x == m with
        | true =>
          rw [hx] at h1
          cases h1
          cases hy : y == m with
          | true => exact (by simpa using hx : x = m).trans (by simpa using hy : y = m).symm
          | false => rw [hy] at h2; exact absurd (hl y _ h2) (Nat.lt_irrefl _)
        | false =>
          rw [hx] at h1
          cases hy : y == m with
          | true => rw [hy] at h2; cases h2; exact absurd (hl x _ h1) (Nat.lt_irrefl _)
          | false => rw [hy] at h2; exact h x y c h1 h2
      · intro x c h1
        rw [List.lookup_cons] at h1
        cases hx : x == m with
        | true => rw [hx] at h1; cases h1; exact Nat.lt_succ_self _
        | false => rw [hx] at h1; exact Nat.lt_succ_of_lt (hl x c h1)
    · rw [if_neg hk] at e1 e2
      exact cellsFrom_inj r n acc h hl x y c e1 e2
theorem newEnv_cells {M : Model} {A : Around} {E : Value → Shared → Prop} {s : Shared} {scope : Scope} {globals : Addr} {closure : List (Str × Addr)} {qual : Str} {around : Env} {Q : Env → Shared → Prop}
    (hQ : Q (newEnv scope s.heap.objs.size globals (cellsFrom (s.heap.objs.size + 1) scope.names closure) qual none .none (some around) builtinsNs) { s with heap := pushCells (s.heap.push { cls := .type "dict", data := .dict #[] }) scope.names }) :
    wpAny M A (newFunctionEnv scope globals closure [] qual none .none (some around)) Q E s := by
  simp only [newFunctionEnv, Option.isSome_some, if_true]
  refine wpAny_bind (wpAny_alloc ?_)
  refine wpAny_bind (wpAny_layCells _ (fun name kind cells => by cases hkc : kind == NameKind.cell <;> simp [hkc]) _ _ _ _ ?_)
  rw [show ({ s with heap := s.heap.push { cls := .type "dict", data := .dict #[] } } : Shared).heap.objs.size = s.heap.objs.size + 1 from Heap.size_push ..]
  exact wpAny_bind (wpAny_pure (wpAny_pure hQ))

theorem relabel_cellN {env : Env} : ∀ {names : List (Str × NameKind)} {x : Str}, names.lookup x = some .cell →
    (names.map fun (n, k) => if (k == NameKind.free && env.scope.kind == .function && env.kindOf n == some .cell) then (n, NameKind.cell) else (n, k)).lookup x = some .cell
  | [], _, h => by simp at h
  | (n, k) :: r, x, h => by
    have ih := @relabel_cellN env r x
    show List.lookup x ((if (k == NameKind.free && env.scope.kind == .function && env.kindOf n == some .cell) = true then (n, NameKind.cell) else (n, k)) :: _) = _
    cases hx : x == n with
    | true =>
      simp only [List.lookup_cons, hx] at h
      cases h
      rw [if_neg (by simp)]
      simp [List.lookup_cons, hx]
    | false =>
      simp only [List.lookup_cons, hx] at h
      by_cases hc : (k == NameKind.free && env.scope.kind == .function && env.kindOf n == some .cell) = true
      · rw [if_pos hc]; simp only [List.lookup_cons, hx]; exact ih h
      · rw [if_neg hc]; simp only [List.lookup_cons, hx]; exact ih h
theorem relabel_cell {scope : Scope} {env : Env} {x : Str} (h : scope.names.lookup x = some .cell) : (relabel scope env).names.lookup x = some .cell := relabel_cellN h

def celC (X : Cx) (scope : Scope) (C : Addr) : List (Str × Addr) := cellsFrom (C + 1) scope.names (clOf X.env scope.names [])
def cxD (X : Cx) (scope : Scope) (C : Addr) (N : List Str) (s₂ : Shared) (H₂ : Hp) (ex : List Addr) (xb : Value → Shared → Prop) : Cx :=
  { X with N := N, s₀ := s₂, H₀ := H₂, env := compEnvC scope (celC X scope C) C X.env, outer := X.stack, stack := X.stack, ex := ex, fn := fun x => scope.names.lookup x == some .cell, pn := [], xe := xb }
structure CompOkD (X : Cx) (scope : Scope) (N : List Str) (fr : List (Option Nat)) : Prop where
  kind : scope.kind = .function
  own : ∀ y ∈ scope.names, y.2 = .cell → scope.names.lookup y.1 = some .cell
  names : ∀ y ∈ scope.names, y.2 = .local → scope.names.lookup y.1 = some .local
  frees : ∀ y ∈ scope.names, y.2 = .free → X.env.kindOf y.1 = some .cell ∨ X.env.kindOf y.1 = some .free
  fr : FrOk X scope N fr
section
variable {X : Cx} {scope : Scope} {N : List Str} {fr : List (Option Nat)} {xb : Value → Shared → Prop}
theorem CompOkD.cells (c : CompOkD X scope N fr) (ok : X.Ok) : ∀ y ∈ scope.names, y.2 = .free → ∃ c, X.env.cells.lookup y.1 = some c := fun y hy e => ok.has y.1 (c.frees y hy e)
theorem CompOkD.getC (c : CompOkD X scope N fr) (ok : X.Ok) {x : Str} {a : Addr} (h : (clOf X.env scope.names []).lookup x = some a) : X.env.cells.lookup x = some a :=
  clOf_get scope.names [] (c.cells ok) (fun _ _ z => by simp at z) h
/-- a name's cell: one of the context's, or a new one -/
theorem CompOkD.get (c : CompOkD X scope N fr) (ok : X.Ok) {g : Heap} {x : Str} {a : Addr} (h : (celC X scope g.objs.size).lookup x = some a) :
    X.env.cells.lookup x = some a ∨ (g.objs.size < a ∧ (x, NameKind.cell) ∈ scope.names ∧ (pushCells (g.push { cls := .type "dict", data := .dict #[] }) scope.names).IsCell a none) := by
  have hs : (g.push { cls := .type "dict", data := .dict #[] }).objs.size = g.objs.size + 1 := Heap.size_push ..
  unfold celC at h
  rw [← hs] at h
  rcases cellsFrom_get _ _ _ _ _ h with z | ⟨z1, z2, z3⟩
  · exact .inl (c.getC ok z)
  · exact .inr ⟨by rw [hs] at z1; exact z1, z2, z3⟩
/-- where the block's cells lie -/
structure Cel (X : Cx) (scope : Scope) (C : Addr) (h : Heap) : Prop where
  get : ∀ x a, (celC X scope C).lookup x = some a → X.env.cells.lookup x = some a ∨ (C < a ∧ (x, NameKind.cell) ∈ scope.names ∧ h.IsCell a none)
theorem compD_ok {pins : List (Addr × Obj)} {σ : St} {H : Hp} {s₂ : Shared} {C : Addr} {fp : List Addr} {h₁ : Heap} (c : CompOkD X scope N fr) (I : Inv X pins σ H s₂) (hC : s₂.heap.objs.size ≤ C) (hcel : Cel X scope C h₁) (hfp : ∀ b ∈ fp, FpOk X pins H b ∧ b < s₂.heap.objs.size) :
    (cxD X scope C N s₂ H fp xb).Ok where
  mod := I.ok.mod
  kind := c.kind
  glob := I.ok.glob
  blt := I.ok.blt
  above := hC
  inj := cellsFrom_inj _ _ _ (fun x y a h1 h2 => I.ok.inj x y a (c.getC I.ok h1) (c.getC I.ok h2)) fun x a h => by
    obtain ⟨v, z⟩ := I.cell x a (c.getC I.ok h)
    exact Nat.lt_succ_of_lt (Nat.lt_of_lt_of_le z.lt hC)
  has := fun x h => by
    refine cellsFrom_has _ _ _ _ ?_
    rcases h with h | h
    · rcases relabel_get h with z | ⟨_, z⟩
      · exact .inl z
      · exact .inr (clOf_has scope.names [] (.inl z))
    · rcases relabel_get h with z | ⟨z, _⟩
      · exact .inr (clOf_has scope.names [] (.inl z))
      · cases z
  cab := fun x a hx h => by
    have hx' : scope.names.lookup x = some .cell := by simpa [cxD] using hx
    exact Nat.le_trans hC (cellsFrom_new _ C _ _ x a (.inl (PySem.mem_of_lookup hx')) (Nat.le_succ _) h)
  hd := I.ok.hd
  frames := I.ok.frames
  stk := .inl rfl
  exf := fun b hb => ⟨Nat.ne_of_lt (Nat.lt_of_lt_of_le (hfp b hb).2 hC), fun x a h => by
    rcases hcel.get x a h with z | ⟨z, _⟩
    · exact (hfp b hb).1.2.2.2.2.1 x a z
    · exact Nat.ne_of_gt (Nat.lt_trans (Nat.lt_of_lt_of_le (hfp b hb).2 hC) z)⟩
  bs := I.bs
  bsz := Nat.le_trans I.ok.bsz I.sz
  noex := fun b o e hb => by
    rcases (hfp b hb).1.2.2.2.1 with z | z
    · exact I.ok.noex b o e z
    · have h1 : b < X.base.objs.size := Heap.lt_size e
      have h2 := I.ok.bsz
      exact absurd (Nat.lt_of_lt_of_le h1 (Nat.le_trans h2 z)) (Nat.lt_irrefl _)
  exfs := fun b hb z => by
    rcases List.mem_cons.mp (I.stkSub b z) with e | e
    · exact (hfp b hb).1.2.1 e
    · exact (hfp b hb).1.2.2.1 e
  funs := I.stack
  frf := I.stkFree
theorem compD_inv {pins : List (Addr × Obj)} {σ : St} {H : Hp} {s₂ : Shared} {C : Addr} {fp : List Addr} {h₄ : Heap} {tk : Nat} (c : CompOkD X scope N fr) (I : Inv X pins σ H s₂) (hC : s₂.heap.objs.size ≤ C) (hcel : Cel X scope C h₄) (hfp : ∀ b ∈ fp, FpOk X pins H b ∧ b < s₂.heap.objs.size)
    (hk : ∀ b o, s₂.heap.get? b = some o → h₄.get? b = some o) (hn : h₄.Ns C fun _ => none) : Inv (cxD X scope C N s₂ H fp xb) [] (stC fr σ) H { s₂ with heap := h₄, toks := tk } := by
  refine ⟨compD_ok c I hC hcel hfp, rfl, I.bare, Un.kept hk, ⟨_, hn, fun i x v e1 e2 e3 => ?_⟩, fun x a e => ?_, I.hok.fresh hC, fun x a e => ?_, fun p hp => absurd (show p ∈ ([] : List (Addr × Obj)) from hp) (by simp), I.hok.kept hk, ?_⟩
  · obtain ⟨j, f1, f2⟩ := stC_get e2
    obtain ⟨g1, g2, g3⟩ := c.fr.get e1 f1
    obtain ⟨m, hm, hl⟩ := I.loc
    have vis : Vis X.env.scope x := by
      rcases g2 with g | g
      · exact .inr (.inl g)
      · exact .inr (.inr g)
    obtain ⟨u, ru, lk⟩ := hl j x v g1 f2 vis
    refine ⟨u, ru, ?_⟩
    rcases lk with ⟨k, _⟩ | ⟨_, a, ea, o, ho, hd⟩
    · rcases g2 with g | g <;> (rw [k] at g; cases g)
    · obtain ⟨a', ea'⟩ := cellsFrom_has scope.names (C + 1) (clOf X.env scope.names []) x (.inr (clOf_has (env := X.env) scope.names [] (.inl (PySem.mem_of_lookup g3))))
      have e5 : X.env.cells.lookup x = some a' := by
        rcases hcel.get x a' ea' with z | ⟨_, z, _⟩
        · exact z
        · rw [c.own _ z rfl] at g3; cases g3
      rw [ea] at e5
      cases e5
      have kd : (cxD X scope C N s₂ H fp xb).env.kindOf x = some .cell ∨ (cxD X scope C N s₂ H fp xb).env.kindOf x = some .free := relabel_free g3
      exact .inr ⟨kd, a, ea', o, hk _ _ ho, hd⟩
  · rcases hcel.get x a e with z | ⟨_, _, z⟩
    · obtain ⟨v, o, ho, hd⟩ := I.cell x a z
      exact ⟨v, o, hk _ _ ho, hd⟩
    · exact ⟨_, z⟩
  · rcases hcel.get x a e with z | ⟨z, _⟩
    · exact I.freeC x a z
    · exact I.hok.fresh (Nat.le_of_lt (Nat.lt_of_le_of_lt hC z))
  · unfold stC
    rw [List.length_map]
    exact c.fr.len
end

section
variable {prog : Program} {w : World} {A : Around} {EE : Value → Shared → Prop} {R : Result → Shared → Prop} {s : Shared}
/-- a turn of the block's loop at its last clause -/
theorem compLoop_last {elt target iter : Expr} {ifs : List Expr} {gens : List Comprehension} {d : Nat} {scope : Scope} {pos : Pos} {it acc : Value} {env : Env}
    (hct : compTurn (.ListComp elt gens scope pos) d it acc env = (do
      standAt iter.pos
      match ← pyNext it with
      | none => pure (.done .next)
      | some v =>
        letOwnedTupleGo target it v
        assign target env v
        let mut ok := true
        for c in ifs do
          if ok then ok ← isTrue c env (eval c env)
        if ok then
          (do let _ ← call (.builtin "list.append") [acc, ← eval elt env])
        again (.compLoop (.ListComp elt gens scope pos) d it acc env)))
    (hE : ∀ x s, EE x s → notedBy (model prog w) A env (fun e s' => R (.error e) s') x s) (I : Nat → Shared → Prop)
    (turn : ∀ n s, I n s → wpAny (model prog w) A (pyNext it) (fun r s₁ => match r with
      | none => R (.ok .next) s₁
      | some v => wpAny (model prog w) A (letOwnedTupleGo target it v) (fun _ s₀ => wpAny (model prog w) A (assign target env v) (fun _ s₂ =>
          wpAny (model prog w) A (forIn ifs true fun c r => if r = true then do let ok ← isTrue c env (eval c env); pure (ForInStep.yield ok) else pure (ForInStep.yield r)) (fun ok s₃ =>
            if ok = true then wpAny (model prog w) A (eval elt env) (fun x s₄ =>
              wpAny (model prog w) A (call (.builtin "list.append") [acc, x]) (fun _ s₅ => ∃ m, m < n ∧ I m s₅) EE s₄) EE s₃
            else ∃ m, m < n ∧ I m s₃) EE s₂) EE s₀) EE s₁) EE s)
    (n : Nat) (h : I n s) :
    codeAny (model prog w) A (.compLoop (.ListComp elt gens scope pos) d it acc env) R s := by
  refine codeAny_loop rfl I (fun n s hI => ?_) n h
  show wpAny _ A ((compTurn (.ListComp elt gens scope pos) d it acc env).onRaise (fun x => do noteFrame x env; theTreesLotGoes x)) _ _ s
  refine wpAny_noted ?_
  rw [hct]
  have nf : ∀ {α : Type} {m : Sem α} {Q : α → Shared → Prop} {s : Shared}, wpAny (model prog w) A m Q EE s → wpAny (model prog w) A m Q (notedBy (model prog w) A env fun e s' => R (.error e) s') s := fun h => wpAny_mono h (fun _ _ x => x) hE
  refine wpAny_bind (wpAny_standAt (wpAny_bind (wpAny_mono (nf (turn n s hI)) (fun r s₁ h₁ => ?_) fun _ _ h' => h')))
  cases r with
  | none => exact wpAny_pure h₁
  | some v =>
    refine wpAny_bind (wpAny_mono (nf h₁) (fun _ s₀ h₀ => ?_) fun _ _ h' => h')
    refine wpAny_bind (wpAny_mono (nf h₀) (fun _ s₂ h₂ => wpAny_bind (wpAny_mono (nf h₂) (fun ok s₃ h₃ => ?_) fun _ _ h' => h')) fun _ _ h' => h')
    cases ok with
    | false => exact wpAny_pure ⟨rfl, h₃⟩
    | true =>
      exact wpAny_bind (wpAny_bind (wpAny_mono (nf h₃) (fun x s₄ h₄ => wpAny_bind (wpAny_mono (nf h₄) (fun _ s₅ h₅ => wpAny_pure (wpAny_pure ⟨rfl, h₅⟩)) fun _ _ h' => h')) fun _ _ h' => h'))
end

/-- the list that grows, apart from all else -/
structure DOk (X : Cx) (D : Addr) : Prop where
  ne : D ≠ X.env.locals
  ab : X.s₀.heap.objs.size ≤ D
  cl : ∀ x a, X.env.cells.lookup x = some a → a ≠ D
  fs : D ∉ X.fs
theorem lob_pin {us : List Value} {k : Nat} : ∀ v, (lob us k).data ≠ .cell v := fun v e => by cases (show Data.seq us.toArray k = Data.cell v from e)
/-- the invariant of a loop over a clause that is the last one -/
def LastI (J : It) (g : TG) (ti : TT) (te : TE) (σc : St) (ys0 : List V) (H1 : Hp) (Z : List V → Hp → Prop) : Prop := ∃ W : Nat → Nat → List V → Hp → Prop, (∃ m, W 0 m ys0 H1) ∧ ∀ i m ys H, W i m ys H → ys.length < sizeLine ∧
  ((J.stop i H ∧ Z ys H) ∨ (J.go i H ∧ ∃ M : List V → Hp → Prop, (∀ ys' H', M ys' H' → ∃ m', m' < m ∧ W (i + 1) m' ys' H') ∧
    ∀ x H', J.yld i H x H' → g x σc H' fun σ2 H2 => ti σ2 H2 fun b H3 => if b = true then te σ2 H3 fun y H4 => M (ys ++ [y]) H4 else M ys H3))
section
variable {X : Cx} {scope : Scope} {fr1 : List (Option Nat)} {tg iter elt : Expr} {ifs : List Expr} {gens : List Comprehension} {d : Nat} {pos : Pos} {J : It} {g : TG} {ti : TT} {te : TE} {R : Result → Shared → Prop}
theorem last_loop {pins : List (Addr × Obj)} {σ0 : St} {H0 : Hp} {s0 : Shared} {it D : Addr} {fp : List Addr} {tn : Nat → Heap → Prop} {us0 : List Value} {k0 : Nat} {ys0 : List V} {Z : List V → Hp → Prop}
    (hct : ∀ acc, compTurn (.ListComp elt gens scope pos) d (.ref it) acc X.env = (do
      standAt iter.pos
      match ← pyNext (.ref it) with
      | none => pure (.done .next)
      | some v =>
        letOwnedTupleGo tg (.ref it) v
        assign tg X.env v
        let mut ok := true
        for c in ifs do
          if ok then ok ← isTrue c X.env (eval c X.env)
        if ok then
          (do let _ ← call (.builtin "list.append") [acc, ← eval elt X.env])
        again (.compLoop (.ListComp elt gens scope pos) d (.ref it) acc X.env)))
    (hc : X.calm = true) (I : Inv X pins σ0 H0 s0) (hσ : ∀ (i : Nat) v, σ0[i]? = some (some v) → ∃ j, fr1[i]? = some (some j)) (gw : GW fr1 g)
    (T : Turn X.prog X.w X.K tg J fp it tn) (st : tn 0 s0.heap) (hfp : ∀ b ∈ fp, FpOk X pins H0 b)
    (hD : s0.heap.get? D = some (lob us0 k0)) (hv : Vals ys0 us0) (hDH : H0 D = none) (hDx : DOk X D) (hDp : ∀ p ∈ X.pn ++ pins, p.1 ≠ D) (hDf : D ∉ fp)
    (hg : PG X tg g) (hi : PIfs X ifs ti) (he : PE X elt te) (hq : LastI J g ti te σ0 ys0 H0 Z)
    (hR : ∀ ys us k H s, Inv X pins σ0 H s → s.heap.get? D = some (lob us k) → Vals ys us → H D = none → ys.length < sizeLine → Z ys H → R (.ok .next) s)
    (hE : ∀ x s, X.xe x s → notedBy (model X.prog X.w) X.A X.env (fun e s' => R (.error e) s') x s) :
    codeAny (model X.prog X.w) X.A (.compLoop (.ListComp elt gens scope pos) d (.ref it) (.ref D) X.env) R s0 := by
  obtain ⟨W, ⟨m0, w0⟩, turn⟩ := hq
  refine compLoop_last (EE := X.xe) (hct _) hE (fun n s' => ∃ i ys us k H', Inv X pins σ0 H' s' ∧ tn i s'.heap ∧ (∀ b ∈ fp, H' b = none) ∧ s'.heap.get? D = some (lob us k) ∧ Vals ys us ∧ H' D = none ∧ W i n ys H') ?_ m0
    ⟨0, ys0, us0, k0, H0, I, st, fun b hb => (hfp b hb).1, hD, hv, hDH, w0⟩
  rintro n s3 ⟨i, ys, us, k, H3, I3, st3, fr3, hD3, rv3, hDn3, w3⟩
  obtain ⟨hlen, alt⟩ := turn i n ys H3 w3
  have I3p : Inv X (pins ++ [(D, lob us k)]) σ0 H3 s3 := I3.pins_of fun p hp => by
    rcases List.mem_append.mp hp with z | z
    · exact I3.pin p (List.mem_append_right _ z)
    · have e : p = (D, lob us k) := by simpa using z
      subst e
      exact ⟨hD3, hDn3, hDx.ne, hDx.fs, lob_pin⟩
  have stat : ∀ {H' : Hp}, (∀ b ∈ fp, H' b = none) → ∀ b ∈ fp, FpOk X (pins ++ [(D, lob us k)]) H' b := fun hn b hb => by
    obtain ⟨q1, q2, q3, q4, q5, q6⟩ := hfp b hb
    refine ⟨hn b hb, q2, q3, q4, q5, fun p hp => ?_⟩
    rcases List.mem_append.mp hp with z | z
    · exact q6 p (List.mem_append_left _ z)
    · rcases List.mem_append.mp z with z | z
      · exact q6 p (List.mem_append_right _ z)
      · have e : p = (D, lob us k) := by simpa using z
        subst e
        rintro rfl
        exact hDf hb
  rcases alt with ⟨stop, qn⟩ | ⟨go, M, hM, step⟩
  · refine thn (T.done X rfl rfl rfl hc i _ s3 _ H3 _ I3p (stat fr3) st3 stop) fun r s4 ⟨hr, I4⟩ => ?_
    subst hr
    have pD := (I4.pin (D, lob us k) (by simp)).1
    exact hR ys us k H3 s4 (I4.pins_of fun p hp => I4.pin p (List.mem_append_right _ (List.mem_append_left _ hp))) pD rv3 hDn3 hlen qn
  · refine thn (T.item X rfl rfl rfl hc i _ s3 _ H3 _ I3p (stat fr3) st3 go) fun r s4 ⟨u, hr, h4⟩ => ?_
    subst hr
    refine thn h4 fun _ s5 ⟨x, H5, I5, r5, y5, st5, fr5⟩ => ?_
    have I5' := I5.pinned (stat fr5) (T.obj _ _ st5)
    refine thn (hg _ s5 _ H5 x u _ I5' r5 (gw x _ H5 _ _ (fun σ2 H2 wk q => And.intro wk q) (step x H5 y5))) fun _ s6 ⟨σ6, H6, I6, wk6, q6⟩ => ?_
    refine thn (hi _ s6 σ6 H6 _ I6 q6) fun ok s7 ⟨H7, I7, q7⟩ => ?_
    have back : ∀ {σ8 : St} {H8 : Hp} {s8 : Shared}, σ8 = σ6 → Inv X ((pins ++ [(D, lob us k)]) ++ pinsAt fp s5.heap) σ8 H8 s8 → Inv X pins σ0 H8 s8 ∧ tn (i + 1) s8.heap ∧ (∀ b ∈ fp, H8 b = none) ∧ s8.heap.get? D = some (lob us k) ∧ H8 D = none := fun {σ8 H8 s8} e8 I8 => by
      subst e8
      have pf : ∀ b o, b ∈ fp → s5.heap.get? b = some o → s8.heap.get? b = some o ∧ H8 b = none := fun b o hb e => by
        have := I8.pin (b, o) (List.mem_append_right _ (List.mem_append_right _ (mem_pinsAt hb e)))
        exact ⟨this.1, this.2.1⟩
      refine ⟨(I8.pins_of (pins' := pins) fun p hp => I8.pin p (List.mem_append_right _ (List.mem_append_left _ (List.mem_append_left _ hp)))).weak wk6.1.symm fun a v e => ?_, T.keep _ _ _ st5 fun b hb o e => (pf b o hb e).1, fun b hb => ?_, (I8.pin (D, lob us k) (by simp)).1, (I8.pin (D, lob us k) (by simp)).2.1⟩
      · obtain ⟨j, f1⟩ := hσ a v e
        rw [wk6.2 a j f1]
        exact e
      · obtain ⟨o, e, _⟩ := T.obj _ _ st5 b hb
        exact (pf b o hb e).2
    cases ok with
    | false =>
      obtain ⟨m', hm, w7⟩ := hM _ _ (by simpa using q7)
      obtain ⟨a1, a2, a3, a4, a5⟩ := back rfl I7
      exact ⟨m', hm, i + 1, ys, us, k, H7, a1, a2, a3, a4, rv3, a5, w7⟩
    | true =>
      have q7' : te σ6 H7 fun y H4 => M (ys ++ [y]) H4 := by simpa using q7
      refine thn (he _ s7 σ6 H7 _ I7 q7') fun v s8 ⟨y, H8, I8, ry, q8⟩ => ?_
      obtain ⟨m', hm, w8⟩ := hM _ _ q8
      obtain ⟨a1, a2, a3, a4, a5⟩ := back rfl I8
      have hus : us.toArray.size ≤ sizeLine := by
        rw [List.size_toArray, ← rv3.length]
        exact Nat.le_of_lt hlen
      refine wpAny_list_append_plain (hsz := hus) (l := D) (items := us.toArray) ⟨_, a4⟩ fun h₅ hl₅ hs₅ => ?_
      obtain ⟨k', hl₅'⟩ := hl₅
      refine ⟨m', hm, i + 1, ys ++ [y], us ++ [v], k', H8, a1.turned (t' := s8.toks) (fun b o hb e => (hs₅.2 b hb).trans e) a5 hDx.ne (.inr hDx.ab) hDx.cl hDp, T.keep _ _ _ a2 fun b hb o e => (hs₅.2 b (fun z => hDf (z ▸ hb))).trans e, a3, ?_, rv3.append (.cons ry .nil), a5, w8⟩
      show h₅.get? D = _
      rw [hl₅']
      simp [lob]
end
section
variable {X : Cx} {scope : Scope} {N : List Str} {fr : List (Option Nat)} {tg iter elt : Expr} {ifs : List Expr} {rest : List Comprehension} {pos : Pos} {J : It} {xb : Addr → Value → Shared → Prop}
/-- what holds when the block's loop begins -/
structure Beg (X : Cx) (scope : Scope) (N : List Str) (fr : List (Option Nat)) (xb : Addr → Value → Shared → Prop) (pins : List (Addr × Obj)) (σ : St) (H : Hp) (s₂ : Shared) (fp : List Addr) (D C : Addr) (h₁ : Heap) : Prop where
  ix : Inv X pins σ H s₂
  ds : s₂.heap.objs.size = D
  dc : D < C
  cel : Cel X scope C h₁
  inv : Inv (cxD X scope C N s₂ H fp (xb C)) [] (stC fr σ) H { s₂ with heap := h₁ }
  fpk : ∀ b ∈ fp, FpOk X pins H b ∧ b < s₂.heap.objs.size
  acc : h₁.get? D = some (lob [] 0)
  free : H D = none
section
variable {pins : List (Addr × Obj)} {σ : St} {H : Hp} {s₂ : Shared} {fp : List Addr} {D C : Addr} {h₁ : Heap}
theorem Beg.dok (B : Beg X scope N fr xb pins σ H s₂ fp D C h₁) : DOk (cxD X scope C N s₂ H fp (xb C)) D where
  ne := Nat.ne_of_lt B.dc
  ab := Nat.le_of_eq B.ds
  cl := fun x a e => by
    rcases B.cel.get x a e with z | ⟨z, _⟩
    · obtain ⟨v, q⟩ := B.ix.cell x a z
      have := q.lt
      rw [B.ds] at this
      exact Nat.ne_of_lt this
    · exact Nat.ne_of_gt (Nat.lt_trans B.dc z)
  fs := fun z => by
    have z' : D ∈ frs X.stack := z
    rcases List.mem_cons.mp (B.ix.stkSub D z') with e | e
    · have := B.ix.lt
      rw [← e, B.ds] at this
      exact Nat.lt_irrefl _ this
    · exact B.ix.nofs (Nat.le_of_eq B.ds) e
theorem Beg.fpD (B : Beg X scope N fr xb pins σ H s₂ fp D C h₁) : D ∉ fp := fun hb => by
  have := (B.fpk D hb).2
  rw [B.ds] at this
  exact Nat.lt_irrefl _ this
theorem Beg.fpo (B : Beg X scope N fr xb pins σ H s₂ fp D C h₁) : ∀ b ∈ fp, FpOk (cxD X scope C N s₂ H fp (xb C)) [] H b := fun b hb => by
  obtain ⟨q1, q2⟩ := B.fpk b hb
  refine ⟨q1.1, ?_, fun z => B.inv.ok.exfs b hb z, .inl hb, fun x a e => (B.inv.ok.exf b hb).2 x a e, fun p hp => absurd (show p ∈ ([] : List (Addr × Obj)) from hp) (by simp)⟩
  exact (B.inv.ok.exf b hb).1
theorem Beg.back (B : Beg X scope N fr xb pins σ H s₂ fp D C h₁) {H3 : Hp} {s4 : Shared} {ys : List V} {us : List Value} {k : Nat} (I4 : Inv (cxD X scope C N s₂ H fp (xb C)) [] (stC fr σ) H3 s4) (hD : s4.heap.get? D = some (lob us k)) (rv : Vals ys us) (hn : H3 D = none) (hl : ys.length < sizeLine) :
    Inv X pins σ (upd H3 D (.lst ys)) s4 ∧ Aside X pins (upd H3 D (.lst ys)) C ∧ ∃ m, s4.heap.Ns C m := by
  have IX : Inv X pins σ H3 s4 := B.ix.call' I4.os I4.base I4.hok I4.bare fun b hb => by
    obtain ⟨q1, q2, q3, q4, q5, q6⟩ := (B.fpk b hb).1
    exact ⟨q4, q2, q5, q6⟩
  have aD : Aside X pins H3 D := B.ix.aside (Nat.le_of_eq B.ds) hn
  refine ⟨IX.track hn aD.ne aD.ab aD.cl aD.pn ⟨Nat.le_of_lt hl, us, k, rv, hD⟩, B.ix.aside (by rw [B.ds]; exact Nat.le_of_lt B.dc) ?_, ?_⟩
  · rw [upd_ne (Nat.ne_of_gt B.dc)]
    exact I4.free
  · obtain ⟨m, hm, _⟩ := I4.loc
    exact ⟨m, hm⟩
end
theorem stC_some {fr : List (Option Nat)} {σ : St} : ∀ (i : Nat) v, (stC fr σ)[i]? = some (some v) → ∃ j, fr[i]? = some (some j) := fun i v e => by
  obtain ⟨j, f, _⟩ := stC_get e
  exact ⟨j, f⟩
theorem comp_coreG {pins : List (Addr × Obj)} {σ : St} {H : Hp} {s₂ : Shared} {it : Addr} {fp : List Addr} {tn : Nat → Heap → Prop} {E : Value → Shared → Prop} (c : CompOkD X scope N fr) (I : Inv X pins σ H s₂)
    (T : Turn X.prog X.w X.K tg J fp it tn) (st : tn 0 s₂.heap) (hfp : ∀ b ∈ fp, FpOk X pins H b) {RR : Value → Addr → Result → Shared → Prop}
    (hloop : ∀ D C h₁, Beg X scope N fr xb pins σ H s₂ fp D C h₁ → tn 0 h₁ → codeAny (model X.prog X.w) X.A (.compLoop (.ListComp elt (⟨tg, iter, ifs, 0⟩ :: rest) scope pos) 0 (.ref it) (.ref D) (cxD X scope C N s₂ H fp (xb C)).env) (RR (.ref D) C) { s₂ with heap := h₁ }) :
    wpAny (model X.prog X.w) X.A (newList []) (fun acc s₃ => wpAny (model X.prog X.w) X.A (newFunctionEnv scope X.env.globals (clOf X.env scope.names []) [] X.env.qual none .none (some X.env)) (fun cenv s₄ =>
      codeAny (model X.prog X.w) X.A (.compStart (.ListComp elt (⟨tg, iter, ifs, 0⟩ :: rest) scope pos) 0 (.ref it) acc { cenv with scope := relabel scope X.env }) (RR acc cenv.locals) s₄) E s₃) E s₂ := by
  refine wpAny_newObj_type (newEnv_cells ?_)
  dsimp only
  generalize hH2 : s₂.heap.push { cls := .type "list", dict := none, data := .seq ([] : List Value).toArray } = H2
  have hC : H2.objs.size = s₂.heap.objs.size + 1 := by rw [← hH2, Heap.size_push]
  have old : ∀ b o, H2.get? b = some o → (pushCells (H2.push { cls := .type "dict", data := .dict #[] }) scope.names).get? b = some o := fun b o e => pushCells_keeps _ _ _ _ (Heap.get?_push_of_some _ e)
  have old2 : ∀ b o, s₂.heap.get? b = some o → (pushCells (H2.push { cls := .type "dict", data := .dict #[] }) scope.names).get? b = some o := fun b o e => old b o (hH2 ▸ Heap.get?_push_of_some _ e)
  have hacc : (pushCells (H2.push { cls := .type "dict", data := .dict #[] }) scope.names).get? s₂.heap.objs.size = some (lob [] 0) := old _ _ (hH2 ▸ Heap.get?_push_size _ rfl)
  have hns : (pushCells (H2.push { cls := .type "dict", data := .dict #[] }) scope.names).Ns H2.objs.size fun _ => none := (Heap.Ns.new H2 (.type "dict")).keeps (pushCells_keeps _ _)
  have hcel : Cel X scope H2.objs.size (pushCells (H2.push { cls := .type "dict", data := .dict #[] }) scope.names) := ⟨fun x a e => c.get I.ok e⟩
  have hfp2 : ∀ b ∈ fp, FpOk X pins H b ∧ b < s₂.heap.objs.size := fun b hb => ⟨hfp b hb, by obtain ⟨o, e, _⟩ := T.obj _ _ st b hb; exact Heap.lt_size e⟩
  have I0 := compD_inv (xb := xb H2.objs.size) (tk := s₂.toks) c I (by rw [hC]; exact Nat.le_succ _) hcel hfp2 old2 hns
  have st₁ := T.keep _ _ _ st fun b hb o e => old2 b o e
  have lp := hloop s₂.heap.objs.size H2.objs.size _ ⟨I, rfl, by rw [hC]; exact Nat.lt_succ_self _, hcel, I0, hfp2, hacc, I.hok.fresh (Nat.le_refl _)⟩ st₁
  exact codeAny_compStart_list lp (T.self _ _ _ _ _ st₁ lp)
end

section
variable {prog : Program} {w : World} {A : Around} {R : Result → Shared → Prop} {s : Shared}
end

def xNo : Addr → Value → Shared → Prop := fun _ _ _ => False
/-! ### one clause -/
theorem CompI.last {J : It} {g : TG} {ti : TT} {te : TE} {σc : St} {H1 : Hp} {Q : VK} (h : CompI J g ti te σc H1 Q) : LastI J g ti te σc [] H1 fun ys H => ∀ l, H l = none → Q (.ref l) (upd H l (.lst ys)) := h
section
variable {X : Cx} {scope : Scope} {N : List Str} {fr : List (Option Nat)} {tg iter elt : Expr} {ifs : List Expr} {pos : Pos} {g : TG} {ti : TT} {te : TE}
theorem one_loop {pins : List (Addr × Obj)} {σ : St} {H : Hp} {s₂ : Shared} {it D C : Addr} {fp : List Addr} {tn : Nat → Heap → Prop} {J : It} {h₁ : Heap} {Q : VK} {R : Result → Shared → Prop} (hc : X.calm = true) (B : Beg X scope N fr xNo pins σ H s₂ fp D C h₁) (T : Turn X.prog X.w X.K tg J fp it tn) (st : tn 0 h₁)
    (hg : PG (cxD X scope C N s₂ H fp (xNo C)) tg g) (hi : PIfs (cxD X scope C N s₂ H fp (xNo C)) ifs ti) (he : PE (cxD X scope C N s₂ H fp (xNo C)) elt te) (gw : GW fr g) (q : CompI J g ti te (stC fr σ) H Q)
    (hR : ∀ H' ys s', Inv X pins σ (upd H' D (.lst ys)) s' → Aside X pins (upd H' D (.lst ys)) C → (∃ m, s'.heap.Ns C m) → Q (.ref D) (upd H' D (.lst ys)) → R (.ok .next) s') :
    codeAny (model X.prog X.w) X.A (.compLoop (.ListComp elt [⟨tg, iter, ifs, 0⟩] scope pos) 0 (.ref it) (.ref D) (cxD X scope C N s₂ H fp (xNo C)).env) R { s₂ with heap := h₁ } := by
  refine last_loop (X := cxD X scope C N s₂ H fp (xNo C)) (fun acc => compTurn_list ..) hc B.inv stC_some gw T st B.fpo B.acc .nil B.free B.dok (fun p hp => absurd (show p ∈ ([] : List (Addr × Obj)) from hp) (by simp)) B.fpD hg hi he q.last ?_ fun _ _ z => z.elim
  intro ys us k H3 s4 I4 hD rv hn hl z
  obtain ⟨a, b, c⟩ := B.back I4 hD rv hn hl
  exact hR H3 ys s4 a b c (z D hn)
theorem pe_compD {wi : TI} (c : CompOkD X scope N fr) (hc : X.calm = true) (hi : PI X tg iter wi) (hg : ∀ C s₂ H fp, PG (cxD X scope C N s₂ H fp (xNo C)) tg g) (hf : ∀ C s₂ H fp, PIfs (cxD X scope C N s₂ H fp (xNo C)) ifs ti) (he : ∀ C s₂ H fp, PE (cxD X scope C N s₂ H fp (xNo C)) elt te) (gw : GW fr g)
    (hs : ∀ x, foldedSetIterable iter X.env x = pure x := by intro _; rfl) : PE X (.ListComp elt [⟨tg, iter, ifs, 0⟩] scope pos) (tComp fr wi g ti te) := by
  intro pins s σ H Q I h
  rw [eval_ListComp]
  refine wpAny_comprehension_free (use := none) rfl hs (closure_eq (c.cells I.ok)) c.kind c.names (thn (hi pins s σ H _ I h) fun v s1 h1 => thn h1 fun itv s2 h2 => ?_)
  obtain ⟨it, fp, tn, J, H2, e, I2, T, st2, f2, q⟩ := h2
  subst e
  refine comp_coreG (xb := xNo) (RR := fun acc C => compPost (model X.prog X.w) X.A X.xe none (EP X pins σ Q) acc C) c I2 T st2 f2 fun D C h₁ B st₁ => ?_
  refine one_loop (Q := Q) hc B T st₁ (hg C _ _ _) (hf C _ _ _) (he C _ _ _) gw q fun H' ys s' IT as hm q => ?_
  obtain ⟨m, hm⟩ := hm
  exact ⟨m, hm, fun h' sb => ⟨.ref D, _, IT.turned (t' := s'.toks) (fun b o hb e => (sb.2 b hb).trans e) as.fr as.ne (.inr as.ab) as.cl as.pn, rfl, q⟩⟩
end
/-! ### two clauses -/
def msk (fr1 : List (Option Nat)) (σ : St) : St := List.zipWith (fun f v => f.bind fun _ => v) fr1 σ
def CompI2 (J : It) (fr1 : List (Option Nat)) (g : TG) (ti : TT) (wi1 : TI) (g1 : TG) (ti1 : TT) (te : TE) (σc : St) (H1 : Hp) (Q : VK) : Prop := ∃ W : Nat → Nat → List V → Hp → Prop, (∃ m, W 0 m [] H1) ∧ ∀ i m ys H, W i m ys H → ys.length < sizeLine ∧
  ((J.stop i H ∧ ∀ l, H l = none → Q (.ref l) (upd H l (.lst ys))) ∨ (J.go i H ∧ ∃ M : List V → Hp → Prop, (∀ ys' H', M ys' H' → ∃ m', m' < m ∧ W (i + 1) m' ys' H') ∧
    ∀ x H', J.yld i H x H' → g x σc H' fun σ2 H2 => ti σ2 H2 fun b H3 => if b = true then wi1 σ2 H3 fun J1 H4 => LastI J1 g1 ti1 te (msk fr1 σ2) ys H4 M else M ys H3))
def tComp2 (fr fr1 : List (Option Nat)) (wi : TI) (g : TG) (ti : TT) (wi1 : TI) (g1 : TG) (ti1 : TT) (te : TE) : TE := fun σ H Q => wi σ H fun J H1 => CompI2 J fr1 g ti wi1 g1 ti1 te (stC fr σ) H1 Q
section
variable {X : Cx} {scope : Scope} {N : List Str} {fr fr1 : List (Option Nat)} {tg iter tg1 iter1 elt : Expr} {ifs ifs1 : List Expr} {pos : Pos} {g g1 : TG} {ti ti1 : TT} {te : TE} {wi1 : TI}
end
/-- a nested block's names: free ones are cells or free in the block around -/
theorem nestD_kind {X : Cx} {scope0 : Scope} {C : Addr} {N : List Str} {s₂ : Shared} {H₂ : Hp} {ex : List Addr} {xb : Value → Shared → Prop} {x : Str} (h : scope0.names.lookup x = some .free ∨ scope0.names.lookup x = some .cell) : (cxD X scope0 C N s₂ H₂ ex xb).env.kindOf x = some .cell ∨ (cxD X scope0 C N s₂ H₂ ex xb).env.kindOf x = some .free := by
  rcases h with h | h
  · exact relabel_free h
  · exact .inl (relabel_cell h)
theorem nestD_frees {X : Cx} {scope0 scope : Scope} {C : Addr} {N : List Str} {s₂ : Shared} {H₂ : Hp} {ex : List Addr} {xb : Value → Shared → Prop} (h : ∀ y ∈ scope.names, y.2 = .free → scope0.names.lookup y.1 = some .free ∨ scope0.names.lookup y.1 = some .cell) :
    ∀ y ∈ scope.names, y.2 = .free → (cxD X scope0 C N s₂ H₂ ex xb).env.kindOf y.1 = some .cell ∨ (cxD X scope0 C N s₂ H₂ ex xb).env.kindOf y.1 = some .free := fun y hy e => nestD_kind (h y hy e)
section
variable {g g1 : TG} {ti ti1 : TT} {te : TE} {wi1 : TI} {fr1 : List (Option Nat)} {σc : St} {H : Hp} {Q : VK}
end
end L2

set_option Elab.async false
set_option linter.all false
set_option maxRecDepth 100000
/-! Tuples: comprehensions over one, tuple(list), what isinstance says of one. -/
namespace L2
open PySem PySem.Spec PyProof.Rows
section
variable {K : PySem.W.Frag} {g : TG} {ti : TT} {te : TE} {σc : St} {H : Hp} {Q : VK}
end
def rTupOf (K : PySem.W.Frag) : List V → Hp → VK → Prop := fun xs H Q => ∃ p ys, xs = [.ref p] ∧ ((SqL K H p ys ∧ ∀ l, H l = none → Q (.ref l) (upd H l (.tup ys))) ∨ (SqT K H p ys ∧ Q (.ref p) H))
section
variable {K : PySem.W.Frag} {H : Hp} {Q : VK}
end
end L2

set_option Elab.async false
set_option linter.all false
set_option maxRecDepth 100000
set_option maxHeartbeats 4000000
/-! t >= u of tuples of ints -/
namespace HT
open PySem PySem.Spec PyProof.Rows
section
open PySem.SeqAt
open PySem.AutoSeq1 (wpAny_loadPart')
open PySem.MeetsSeq PySem.MeetsSeq2 PySem.MeetsSeq3
end
section
variable {prog : Program} {w : World} {A : Around} {E : Value → Shared → Prop} {s : Shared}
end
end HT
namespace L2
open PySem PySem.Spec PyProof.Rows
def rGeT (K : PySem.W.Frag) : R2 := fun x y H Q => ∃ a b ns ms, x = .ref a ∧ y = .ref b ∧ SqT K H a (ns.map V.int) ∧ SqT K H b (ms.map V.int) ∧ Q (.bl (!HT.lexLt ns ms)) H
end L2

set_option Elab.async false
set_option linter.all false
set_option maxRecDepth 100000
set_option maxHeartbeats 4000000
/-! x < y of lists of ints; min of pairs of an int and a list of ints -/
namespace HT
open PySem PySem.Spec PyProof.Rows L2
section
open PySem.SeqAt
open PySem.AutoSeq1 (wpAny_loadPart')
open PySem.MeetsSeq PySem.MeetsSeq2 PySem.MeetsSeq3
theorem lexLt_drop {ns ms : List Int} {i : Nat} {x y : Int} (hx : ns[i]? = some x) (hy : ms[i]? = some y) : lexLt (ns.drop i) (ms.drop i) = if x = y then lexLt (ns.drop (i + 1)) (ms.drop (i + 1)) else decide (x < y) := by
  obtain ⟨a1, a2⟩ := List.getElem?_eq_some_iff.mp hx
  obtain ⟨b1, b2⟩ := List.getElem?_eq_some_iff.mp hy
  rw [List.drop_eq_getElem_cons a1, List.drop_eq_getElem_cons b1, lexLt_cons, a2, b2]
theorem lexLt_end {ns ms : List Int} {i : Nat} (h : ns[i]? = none ∨ ms[i]? = none) (hi : i ≤ ns.length ∧ i ≤ ms.length) : lexLt (ns.drop i) (ms.drop i) = decide (ns.length < ms.length) := by
  rcases h with h | h
  · have h' := List.getElem?_eq_none_iff.mp h
    rw [List.drop_of_length_le h']
    by_cases q : ms.length ≤ i
    · rw [List.drop_of_length_le q, lexLt_nil_nil, decide_eq_false (by omega)]
    · rw [List.drop_eq_getElem_cons (by omega), lexLt_nil_cons, decide_eq_true (by omega)]
  · have h' := List.getElem?_eq_none_iff.mp h
    rw [List.drop_of_length_le h']
    by_cases q : ns.length ≤ i
    · rw [List.drop_of_length_le q, lexLt_nil_nil, decide_eq_false (by omega)]
    · rw [List.drop_eq_getElem_cons (by omega), lexLt_cons_nil, decide_eq_false (by omega)]
theorem ints_get {vs : List Value} {ns : List Int} (h : IntsAre vs ns) : ∀ i : Nat, (∃ x t, ns[i]? = some x ∧ vs[i]? = some (Value.int x t)) ∨ (ns[i]? = none ∧ vs[i]? = none) := by
  induction h with
  | nil => intro i; exact .inr ⟨by simp, by simp⟩
  | cons a t _ ih =>
    intro i
    cases i with
    | zero => exact .inl ⟨a, t, rfl, rfl⟩
    | succ i => simpa using ih i
theorem lt_loop (l b : Addr) (xs ys : Array Value) (n n2 : Nat) (ns ms : List Int) (hi : IntsAre xs.toList ns) (hj : IntsAre ys.toList ms) : ∀ (k i : Nat), ns.length - i = k → i ≤ ns.length → i ≤ ms.length →
    Meets (Builtin.«list.__eq__.loop» { pos := [.ref l, .ref b, rawInt (i : Int), rawInt 0] }) fun _ R s => s.heap.get? l = some { cls := .type "list", data := .seq xs n } ∧ s.heap.get? b = some { cls := .type "list", data := .seq ys n2 } ∧ R (.ok (.ret (.bool (lexLt (ns.drop i) (ms.drop i))))) s := by
  intro k
  induction k with
  | zero =>
    intro i hk h1 h2 prog w A R s h
    obtain ⟨hp, g, d, tk, os⟩ := s
    obtain ⟨hl, hb, h⟩ := h
    have z1 : xs.size = ns.length := by rw [← hi.length]; simp
    have z2 : ys.size = ms.length := by rw [← hj.length]; simp
    have e1 : xs[i]? = none := by rw [Array.getElem?_eq_none_iff]; omega
    rw [lexLt_end (.inl (List.getElem?_eq_none_iff.mpr (by omega))) ⟨h1, h2⟩, ← z1, ← z2] at h
    wp_walk using wpAny_loadPart' hl, wpAny_loadPart' hb
    simp only [Int.toNat_natCast, e1]
    wp_walk using wpAny_loadPart' hl, wpAny_loadPart' hb
    exact h
  | succ k ih =>
    intro i hk h1 h2 prog w A R s h
    obtain ⟨hp, g, d, tk, os⟩ := s
    obtain ⟨hl, hb, h⟩ := h
    have z1 : xs.size = ns.length := by rw [← hi.length]; simp
    have z2 : ys.size = ms.length := by rw [← hj.length]; simp
    rcases ints_get hi i with ⟨x, tx, x1, x2⟩ | ⟨x1, x2⟩
    · have e1 : xs[i]? = some (.int x tx) := by rw [← Array.getElem?_toList]; exact x2
      rcases ints_get hj i with ⟨y, ty, y1, y2⟩ | ⟨y1, y2⟩
      · have e2 : ys[i]? = some (.int y ty) := by rw [← Array.getElem?_toList]; exact y2
        rw [lexLt_drop x1 y1] at h
        wp_walk using wpAny_loadPart' hl, wpAny_loadPart' hb
        simp only [Int.toNat_natCast, e1, e2]
        obtain ⟨e, he, hiff⟩ := eqAt_int A.in1 ⟨hp, g, d, tk, os⟩ x tx y ty
        refine wpAny_bind (he prog w _ _ ?_)
        cases e with
        | true =>
          rw [if_pos (hiff.mp rfl)] at h
          rw [if_pos rfl]
          have hm : i < ms.length := (List.getElem?_eq_some_iff.mp y1).1
          exact meets_again (S := fun _ R s => s.heap.get? l = some { cls := .type "list", data := .seq xs n } ∧ s.heap.get? b = some { cls := .type "list", data := .seq ys n2 } ∧ R (.ok (.ret (.bool (lexLt (ns.drop (i + 1)) (ms.drop (i + 1)))))) s) rfl plain_eq_loop entry_eq_loop (ih (i + 1) (by omega) (by omega) (by omega)) prog w A R ⟨hp, g, d, tk, os⟩ ⟨hl, hb, h⟩
        | false =>
          rw [if_neg (fun q => absurd (hiff.mpr q) Bool.false_ne_true)] at h
          rw [if_neg (by decide)]
          have hri := rcLt_int A.in1 ⟨hp, g, d, tk, os⟩ x tx y ty prog w
          wp_walk using wpAny_loadPart' hl, wpAny_loadPart' hb
          simp only [e1, e2]
          wp_walk using hri
          exact h
      · have e2 : ys[i]? = none := by rw [← Array.getElem?_toList]; exact y2
        rw [lexLt_end (.inr y1) ⟨h1, h2⟩, ← z1, ← z2] at h
        wp_walk using wpAny_loadPart' hl, wpAny_loadPart' hb
        simp only [Int.toNat_natCast, e1, e2]
        wp_walk using wpAny_loadPart' hl, wpAny_loadPart' hb
        exact h
    · exact absurd (List.getElem?_eq_none_iff.mp x1) (by omega)
theorem list_lt_ints (l b : Addr) (xs ys : Array Value) (n n2 : Nat) (ns ms : List Int) (hi : IntsAre xs.toList ns) (hj : IntsAre ys.toList ms) :
    Meets (Builtin.«list.__lt__» { pos := [.ref l, .ref b] }) fun _ R s => s.heap.get? l = some { cls := .type "list", data := .seq xs n } ∧ s.heap.get? b = some { cls := .type "list", data := .seq ys n2 } ∧ R (.ok (.ret (.bool (lexLt ns ms)))) s := by
  intro prog w A R s h
  have L := lt_loop l b xs ys n n2 ns ms hi hj ns.length 0 rfl (Nat.zero_le _) (Nat.zero_le _)
  obtain ⟨hp, g, d, tk, os⟩ := s
  have M := L prog w A R ⟨hp, g, d, tk, os⟩ h
  have C : codeAny (model prog w) A (Code.builtin "list.__eq__.loop" { pos := [.ref l, .ref b, rawInt ((0 : Nat) : Int), rawInt 0] }) R ⟨hp, g, d, tk, os⟩ := by
    refine codeAny_builtinAt entry_eq_loop (wpAt_of_wpAny ?_)
    rw [Around.under_plainId plain_eq_loop]
    exact M
  obtain ⟨hl, hb, h⟩ := h
  have f2 := AutoSeq1.sub_list_list
  wp_walk using wpAny_loadPart' hl, wpAny_loadPart' hb
  exact ⟨plainId_quiet plain_eq_loop _, C⟩
theorem lt_listInts {prog : Program} {w : World} {A : Around} {E : Value → Shared → Prop} {s : Shared} {l b : Addr} {xs ys : Array Value} {n n2 : Nat} {ns ms : List Int} {Q : Value → Shared → Prop} (hl : s.heap.get? l = some { cls := .type "list", data := .seq xs n }) (hb : s.heap.get? b = some { cls := .type "list", data := .seq ys n2 }) (hi : IntsAre xs.toList ns) (hj : IntsAre ys.toList ms)
    (hu : A.units < cLine) (h : Q (.bool (lexLt ns ms)) s) : wpAny (model prog w) A (richCompare .Lt (.ref l) (.ref b)) Q E s :=
  richCompare_meets_room (op := .Lt) ⟨_, hl, rfl⟩ ⟨_, hb, rfl⟩ PySem.F.slot_list_lt PySem.F.entry_list_lt (PySem.F.args_list_lt_2 _ _) (list_lt_ints l b xs ys n n2 ns ms hi hj)
    ⟨hl, hb, show Value.bool (lexLt ns ms) ≠ Value.notImplemented ∧ Q (.bool (lexLt ns ms)) s from ⟨(fun x => nomatch x), h⟩⟩ hu
/-- the pair before the other: by the int, then by the list -/
def pairLt (p q : Int × List Int) : Bool := if p.1 = q.1 then lexLt p.2 q.2 else decide (p.1 < q.1)
theorem lexLt_self : ∀ ns : List Int, lexLt ns ns = false
  | [] => rfl
  | x :: ns => by rw [lexLt_cons, if_pos rfl]; exact lexLt_self ns
/-- a pair of an int and a list of ints at a place -/
def PairAt (h : Heap) (p : Int × List Int) (v : Value) : Prop := ∃ (a l : Addr) (t : Tok) (vs : List Value) (n m : Nat) (dd : Option Addr) (sl : Array (Option Value)), v = .ref a ∧ h.get? a = some { cls := .type "tuple", dict := dd, data := .seq #[.int p.1 t, .ref l] n, slots := sl } ∧ h.get? l = some { cls := .type "list", data := .seq vs.toArray m } ∧ IntsAre vs p.2
theorem reads_list {h : Heap} {l : Addr} {vs : List Value} {m : Nat} {ns : List Int} (hl : h.get? l = some { cls := .type "list", data := .seq vs.toArray m }) (hi : IntsAre vs ns) : ∃ as, Reads h (.ref l) (pL ns) as := by
  have all : ∀ {vs : List Value} {ns : List Int}, IntsAre vs ns → ∃ as, ReadsAll h vs (ns.map PyData.int) as := by
    intro vs ns hi
    induction hi with
    | nil => exact ⟨_, ReadsAll.nil⟩
    | cons a t _ ih =>
      obtain ⟨bs, h2⟩ := ih
      exact ⟨_, ReadsAll.cons (Reads.int a t) h2⟩
  obtain ⟨as, ra⟩ := all hi
  exact ⟨_, reads_list_at hl rfl rfl (by simpa using ra)⟩
theorem pL_lay (ns : List Int) : (pL ns).canLay0 = true ∧ (pL ns).depth ≤ 1 := by
  have all : ∀ ns : List Int, PyData.canLayAll0 (ns.map PyData.int) = true ∧ PyData.depthAll (ns.map PyData.int) ≤ 0 := by
    intro ns
    induction ns with
    | nil => simp [PyData.canLayAll0, PyData.depthAll]
    | cons x ns ih =>
      simp only [List.map_cons, PyData.canLayAll0, PyData.depthAll, PyData.canLay0, PyData.depth, ih.1, Bool.and_self, true_and]
      have := ih.2
      omega
  have q := all ns
  have q2 := q.2
  show PyData.canLay0 (.list (ns.map PyData.int)) = true ∧ PyData.depth (.list (ns.map PyData.int)) ≤ 1
  simp only [PyData.canLay0, PyData.depth, q.1, true_and]
  omega
theorem rc_pair {prog : Program} {w : World} {A : Around} {E : Value → Shared → Prop} {s : Shared} {p q : Int × List Int} {u v : Value} {Q : Value → Shared → Prop} (hp : PairAt s.heap p u) (hq : PairAt s.heap q v) (hu : A.units + 20 < cLine) (h : Q (.bool (pairLt p q)) s) : wpAny (model prog w) A (richCompare .Lt u v) Q E s := by
  obtain ⟨a, l, t, vs, n, m, dd, sl, rfl, ha, hl, hi⟩ := hp
  obtain ⟨b, k, t2, us, n2, m2, dd2, sl2, rfl, hb, hk, hj⟩ := hq
  have M : Meets (Builtin.«tuple.__lt__» ⟨[.ref a, .ref b], []⟩) (fun A' R s' => s' = s ∧ A'.units = A.units ∧ R (.ok (.ret (.bool (pairLt p q)))) s) := by
    refine .of_wp fun prog w A' R s' h => ?_
    obtain ⟨rfl, hA, h⟩ := h
    obtain ⟨hp, g, d, tk, os⟩ := s'
    have f2 := AutoSeq1.sub_tuple_tuple
    obtain ⟨e, he, hiff⟩ := eqAt_int A'.in1 ⟨hp, g, d, tk, os⟩ p.1 t q.1 t2
    wp_walk using wpAny_loadPart' ha, wpAny_loadPart' hb, wpAny_forIn_list _ (fun rest b s' => b.1 = none ∧ s' = ⟨hp, g, d, tk, os⟩ ∧ (rest = [(.int p.1 t, .int q.1 t2), (.ref l, .ref k)] ∨ (rest = [(.ref l, .ref k)] ∧ p.1 = q.1) ∨ (rest = [] ∧ p.1 = q.1 ∧ p.2 = q.2))) _
    case turn =>
      rintro ⟨y, x⟩ rest b s' ⟨hb', rfl, hc⟩
      rcases hc with hc | ⟨hc, e1⟩ | ⟨hc, _⟩
      · injection hc with hyx hrest
        injection hyx with hy hx
        subst hy hx hrest
        refine wpAny_bind (he prog w _ _ ?_)
        cases e with
        | true =>
          wp_walk
          exact ⟨rfl, rfl, .inr (.inl ⟨rfl, hiff.mp rfl⟩)⟩
        | false =>
          have hn : ¬ p.1 = q.1 := fun z => absurd (hiff.mpr z) Bool.false_ne_true
          have hri := rcLt_int A'.in1 ⟨hp, g, d, tk, os⟩ p.1 t q.1 t2 prog w
          wp_walk using hri
          exact ⟨_, rfl, by rw [pairLt, if_neg hn] at h; simpa using h⟩
      · injection hc with hyx hrest
        injection hyx with hy hx
        subst hy hx hrest
        obtain ⟨as, r1⟩ := reads_list hl hi
        obtain ⟨bs, r2⟩ := reads_list hk hj
        refine wpAny_bind (SeqAt.eqBoolOverData prog w _ _ _ _ _ _ _ _ _ _ r1 r2 ?_ ?_ ?_ ?_)
        · exact (pL_lay _).1
        · exact (pL_lay _).1
        · have := (pL_lay p.2).2
          show A'.units + 1 + min _ _ < cLine
          omega
        · rw [eqv_pints]
          by_cases z : p.2 = q.2
          · rw [decide_eq_true z]
            wp_walk
            exact ⟨rfl, rfl, .inr (.inr ⟨rfl, e1, z⟩)⟩
          · rw [decide_eq_false z]
            have hri := fun E Q h => lt_listInts (prog := prog) (w := w) (A := A'.in1) (s := ⟨hp, g, d, tk, os⟩) (E := E) (Q := Q) hl hk (by simpa using hi) (by simpa using hj) (by show A'.units + 1 < cLine; omega) h
            wp_walk using hri
            exact ⟨_, rfl, by rw [pairLt, if_pos e1] at h; simpa using h⟩
      · cases hc
    case fin =>
      rintro ⟨b1, b2⟩ s' ⟨hb', rfl, hc⟩
      simp only at hb'
      subst hb'
      rcases hc with hc | ⟨hc, _⟩ | ⟨_, e1, e2⟩
      · cases hc
      · cases hc
      · wp_walk
        refine ⟨_, rfl, ?_⟩
        rw [pairLt, if_pos e1, e2, lexLt_self] at h
        simpa [Builtin.Tuple.tupleCompareSizes] using h
    case h =>
      exact ⟨rfl, rfl, .inl rfl⟩
  exact richCompare_meets_room (op := .Lt) ⟨_, ha, rfl⟩ ⟨_, hb, rfl⟩ PySem.F.slot_tuple_lt PySem.F.entry_tuple_lt (PySem.F.args_tuple_lt_2 _ _) M
    ⟨rfl, rfl, show Value.bool (pairLt p q) ≠ Value.notImplemented ∧ Q (.bool (pairLt p q)) s from ⟨(fun x => nomatch x), h⟩⟩ (by omega)
end
end HT

set_option Elab.async false
set_option linter.all false
set_option maxRecDepth 100000
set_option maxHeartbeats 4000000
namespace HT
open PySem PySem.Spec PyProof.Rows L2
section
open PySem.SeqAt
open PySem.MeetsSeq PySem.MeetsSeq2 PySem.MeetsSeq3
/-- what lies elsewhere stays -/
def Kept (wr : List Addr) (s s' : Shared) : Prop := ∃ h' tk, s' = { s with heap := h', toks := tk } ∧ ∀ (b : Addr) (o : Obj), b ∉ wr → s.heap.get? b = some o → h'.get? b = some o
theorem Kept.mv {S : Addr} {wr : List Addr} {s₀ : Shared} {hp : Heap} {g : Array GenState} {d : Drawn} {tk0 tk : Nat} {os : OsState} (K : Kept (S :: wr) s₀ ⟨hp, g, d, tk0, os⟩) {h' : Heap} (hk : ∀ (b : Addr) (o : Obj), b ∉ wr → hp.get? b = some o → h'.get? b = some o) : Kept (S :: wr) s₀ ⟨h', g, d, tk, os⟩ := by
  obtain ⟨h1, t1, e, K⟩ := K
  cases e
  exact ⟨h', tk, rfl, fun b o z q => hk b o (fun y => z (List.mem_cons_of_mem _ y)) (K b o z q)⟩
theorem Kept.upd {S : Addr} {wr : List Addr} {s₀ : Shared} {hp : Heap} {g : Array GenState} {d : Drawn} {tk0 tk : Nat} {os : OsState} (K : Kept (S :: wr) s₀ ⟨hp, g, d, tk0, os⟩) {h' : Heap} (hk : ∀ (b : Addr) (o : Obj), b ∉ wr → hp.get? b = some o → h'.get? b = some o) {o : Obj} (hS : h'.get? S = some o) {f : Obj → Obj} : Kept (S :: wr) s₀ ⟨h'.update S f, g, d, tk, os⟩ := by
  obtain ⟨h1, t1, e, K⟩ := K
  cases e
  refine ⟨_, tk, rfl, fun b o z q => ?_⟩
  rw [Heap.get?_update_of_ne _ (fun y => z (by rw [y]; exact List.mem_cons_self))]
  exact hk b o (fun y => z (List.mem_cons_of_mem _ y)) (K b o z q)
local macro_rules | `(tactic| walk_at "minloop") => do
  let n := Lean.mkIdent ((Lean.Name.num `_private.PySem.Builtin.Builtins.W1All 0) ++ `PySem.Builtin.minMaxLoop)
  `(tactic| (delta Builtin.«min.loop»; delta $n:ident; dsimp only))
theorem min_loop {prog : Program} {w : World} {A : Around} {R : Result → Shared → Prop} {I S : Addr} {fp wr : List Addr} {n : Nat} {P : Nat → Value → Prop} {St : Nat → Heap → Prop} (W : Walks prog w A.in1 I fp wr n P St) (hS : S ∉ fp) {s₀ : Shared} (lt : Nat → Nat → Bool)
    (hc : ∀ (i j : Nat) (vi vj : Value) (s : Shared) (Q E : Value → Shared → Prop), P i vi → P j vj → Kept (S :: wr) s₀ s → Q (.bool (lt i j)) s → wpAny (model prog w) A.in1 (richCompare .Lt vi vj) Q E s) :
    ∀ (k j : Nat) (s : Shared) (vb : Value) (c : Nat), n - (j + 1) = k → j + 1 ≤ n → St (j + 1) s.heap → P (argBest lt j) vb → s.heap.get? S = some { cls := .type "list", data := .seq #[vb, vb] c } → Kept (S :: wr) s₀ s →
      (∀ (v : Value) (s' : Shared), P (argBest lt (n - 1)) v → Kept (S :: wr) s₀ s' → R (.ok (.ret v)) s') → codeAny (model prog w) A (Code.builtin "min.loop" { pos := [.ref I, .none, .ref S] }) R s := by
  intro k
  induction k with
  | zero =>
    intro j s vb c hk hj hSt hP hb hK h
    refine codeAny_builtin F.entry_min_loop ?_
    rw [Around.under_plainId F.plain_min_loop]
    have hn : n = j + 1 := by omega
    subst hn
    obtain ⟨hp, g, d, tk, os⟩ := s
    have hSw : S ∉ wr := fun z => hS (W.sub S z)
    walk_at "minloop"
    refine wpAny_bind (wpAny_seqItems hb rfl ?_)
    refine wpAny_bind (wpAny_tryCatch (W.done _ _ _ hSt fun h' tk' hk' => ?_))
    have hb' := hk' S _ hSw hb
    refine wpAny_bind (wpAny_updateSeq hb' rfl ?_)
    refine wpAny_bind (wpAny_letGo (wpAny_pure (h vb _ hP (hK.upd hk' hb'))))
  | succ k ih =>
    intro j s vb c hk hj hSt hP hb hK h
    refine codeAny_builtin F.entry_min_loop ?_
    rw [Around.under_plainId F.plain_min_loop]
    obtain ⟨hp, g, d, tk, os⟩ := s
    have hSw : S ∉ wr := fun z => hS (W.sub S z)
    walk_at "minloop"
    refine wpAny_bind (wpAny_seqItems hb rfl ?_)
    refine wpAny_bind (wpAny_tryCatch (W.item (j + 1) _ _ _ (by omega) hSt fun v h' tk' hP' hSt' hk' => ?_))
    have hb' := hk' S _ hSw hb
    have hK' := hK.mv hk' (tk := tk')
    refine wpAny_bind (wpAny_pure ?_)
    refine wpAny_bind (wpAny_tryCatch (wpAny_holding (wpAny_bind (hc (j + 1) (argBest lt j) v vb _ _ _ hP' hP hK' ?_))))
    refine wpAny_bind (wpAny_holding (wpAny_truthy_bool ?_))
    refine wpAny_bind (wpAny_letGo (wpAny_pure ?_))
    have hq : (Code.builtin "min.loop" { pos := [.ref I, .none, .ref S] }).quiet = true := plainId_quiet F.plain_min_loop _
    by_cases e : lt (j + 1) (argBest lt j) = true
    · rw [if_pos e]
      refine wpAny_bind (wpAny_updateSeq hb' rfl ?_)
      refine wpAny_bind (wpAny_letGo (wpAny_pure ⟨hq, ih (j + 1) _ v c (by omega) (by omega) (W.frame _ _ _ hSt' fun b hbf o hbo => ?_) (by rw [show argBest lt (j + 1) = if lt (j + 1) (argBest lt j) then j + 1 else argBest lt j from rfl, if_pos e]; exact hP') ?_ (hK.upd hk' hb') h⟩))
      · rw [Heap.get?_update_of_ne _ (fun z => hS (by rw [z]; exact hbf))]
        exact hbo
      · exact Heap.get?_update_self _ hb' rfl
    · rw [if_neg e]
      refine wpAny_bind (wpAny_letGo (wpAny_pure ⟨hq, ih (j + 1) _ vb c (by omega) (by omega) hSt' (by rw [show argBest lt (j + 1) = if lt (j + 1) (argBest lt j) then j + 1 else argBest lt j from rfl, if_neg e]; exact hP) hb' hK' h⟩))
theorem min_first {prog : Program} {w : World} {A : Around} {R : Result → Shared → Prop} {I S : Addr} {fp wr : List Addr} {n : Nat} {P : Nat → Value → Prop} {St : Nat → Heap → Prop} (W : Walks prog w A.in1 I fp wr n P St) (hS : S ∉ fp) {s : Shared} (lt : Nat → Nat → Bool)
    (hc : ∀ (i j : Nat) (vi vj : Value) (s' : Shared) (Q E : Value → Shared → Prop), P i vi → P j vj → Kept (S :: wr) s s' → Q (.bool (lt i j)) s' → wpAny (model prog w) A.in1 (richCompare .Lt vi vj) Q E s') {c : Nat} (hn : 0 < n) (hSt : St 0 s.heap) (hb : s.heap.get? S = some { cls := .type "list", data := .seq #[] c })
    (h : ∀ (v : Value) (s' : Shared), P (argBest lt (n - 1)) v → Kept (S :: wr) s s' → R (.ok (.ret v)) s') : codeAny (model prog w) A (Code.builtin "min.loop" { pos := [.ref I, .none, .ref S] }) R s := by
  refine codeAny_builtin F.entry_min_loop ?_
  rw [Around.under_plainId F.plain_min_loop]
  obtain ⟨hp, g, d, tk, os⟩ := s
  have hSw : S ∉ wr := fun z => hS (W.sub S z)
  have hK : Kept (S :: wr) ⟨hp, g, d, tk, os⟩ ⟨hp, g, d, tk, os⟩ := ⟨_, _, rfl, fun _ _ _ q => q⟩
  walk_at "minloop"
  refine wpAny_bind (wpAny_seqItems hb rfl ?_)
  refine wpAny_bind (wpAny_tryCatch (W.item 0 _ _ _ hn hSt fun v h' tk' hP' hSt' hk' => ?_))
  have hb' := hk' S _ hSw hb
  refine wpAny_bind (wpAny_pure ?_)
  refine wpAny_bind (wpAny_updateSeq hb' rfl ?_)
  have hq : (Code.builtin "min.loop" { pos := [.ref I, .none, .ref S] }).quiet = true := plainId_quiet F.plain_min_loop _
  obtain ⟨c', hc'⟩ : ∃ c', (h'.update S (Obj.mapSeq fun _ => #[v, v])).get? S = some { cls := .type "list", data := .seq #[v, v] c' } := ⟨_, Heap.get?_update_self _ hb' rfl⟩
  refine wpAny_pure ⟨hq, min_loop W hS lt hc (n - 1) 0 _ v c' (by omega) (by omega) (W.frame _ _ _ hSt' fun b hbf o hbo => ?_) hP' hc' (hK.upd hk' hb') h⟩
  rw [Heap.get?_update_of_ne _ (fun z => hS (by rw [z]; exact hbf))]
  exact hbo
local macro_rules | `(tactic| walk_at "minmax") => do
  let n := Lean.mkIdent ((Lean.Name.num `_private.PySem.Builtin.Builtins.W1All 0) ++ `PySem.Builtin.minMax)
  `(tactic| (delta Builtin.min; delta $n:ident; dsimp only))
/-- min of a list, whatever its items are, if their order is known -/
theorem min_list {prog : Program} {w : World} {A : Around} {E : Value → Shared → Prop} {s : Shared} {l : Addr} {vs : List Value} {Q : Value → Shared → Prop} (lt : Nat → Nat → Bool) (hh : A.handled = none) (hl : s.heap.IsList l vs.toArray) (hn : 0 < vs.length)
    (hc : ∀ (prog : Program) (w : World) (i j : Nat) (vi vj : Value) (h' : Heap) (tk : Nat) (Q E : Value → Shared → Prop), vs[i]? = some vi → vs[j]? = some vj → (∀ b o, s.heap.get? b = some o → h'.get? b = some o) → Q (.bool (lt i j)) { s with heap := h', toks := tk } → wpAny (model prog w) A.in1 (richCompare .Lt vi vj) Q E { s with heap := h', toks := tk })
    (h : ∀ (v : Value) (h' : Heap) (tk : Nat), vs[argBest lt (vs.length - 1)]? = some v → (∀ b o, s.heap.get? b = some o → h'.get? b = some o) → Q v { s with heap := h', toks := tk }) : wpAny (model prog w) A (call (.builtin "min") [.ref l]) Q E s := by
  obtain ⟨hp, g, d, tk, os⟩ := s
  have M : Meets (Builtin.min { pos := [.ref l] }) (fun A' R s' => s' = ⟨hp, g, d, tk, os⟩ ∧ A' = A ∧ ∀ (v : Value) (h' : Heap) (tk : Nat), vs[argBest lt (vs.length - 1)]? = some v → (∀ b o, hp.get? b = some o → h'.get? b = some o) → R (.ok (.ret v)) ⟨h', g, d, tk, os⟩) := by
    intro prog w A' R s' h
    obtain ⟨rfl, rfl, h⟩ := h
    walk_at "minmax"
    rw [if_neg (by simp)]
    wp_walk using fun (Q : Value → Shared → Prop) (E : Value → Shared → Prop) => wpAny_pyIter_list (prog := prog) (w := w) (A := A'.in1) (Q := Q) (E := E) hl
    have hlt : l < hp.objs.size := by obtain ⟨o, ho, _⟩ := hl; exact Heap.lt_size ho
    have hlI : l ≠ hp.objs.size := Nat.ne_of_lt hlt
    have hsz : (hp.push { cls := .type "list_iterator", data := .fields #[.ref l, .int 0 0] }).objs.size = hp.objs.size + 1 := by simp [Heap.push]
    have old : ∀ b o, hp.get? b = some o → ((hp.push { cls := .type "list_iterator", data := .fields #[.ref l, .int 0 0] }).push { cls := .type "list", data := .seq #[] }).get? b = some o := fun b o z => Heap.get?_push_of_some _ (Heap.get?_push_of_some _ z)
    have hkp : ∀ {s' : Shared}, Kept [(hp.push { cls := .type "list_iterator", data := .fields #[.ref l, .int 0 0] }).objs.size, hp.objs.size] ⟨(hp.push { cls := .type "list_iterator", data := .fields #[.ref l, .int 0 0] }).push { cls := .type "list", data := .seq #[] }, g, d, tk, os⟩ s' → ∃ h' tk', s' = ⟨h', g, d, tk', os⟩ ∧ ∀ b o, hp.get? b = some o → h'.get? b = some o := fun {s'} K => by
      obtain ⟨h', tk', rfl, q⟩ := K
      refine ⟨h', tk', rfl, fun b o z => q b o (fun m => ?_) (old b o z)⟩
      have hb : (show Nat from b) < hp.objs.size := Heap.lt_size z
      rw [hsz] at m
      rcases List.mem_cons.mp m with e | m
      · have e' : (show Nat from b) = hp.objs.size + 1 := e
        omega
      · have e' : (show Nat from b) = hp.objs.size := List.mem_singleton.mp m
        omega
    refine ⟨plainId_quiet F.plain_min_loop _, ?_⟩
    refine min_first (Walks.list (A := A'.in1) hh hp.objs.size l hlI vs.toArray) ?_ lt ?_ (by simpa using hn) ?_ (Heap.get?_push_size _ rfl) ?_
    · intro m
      rw [hsz] at m
      have hb : (show Nat from l) < hp.objs.size := hlt
      rcases List.mem_cons.mp m with e | m
      · have e' : hp.objs.size + 1 = hp.objs.size := e
        omega
      · have e' : hp.objs.size + 1 = (show Nat from l) := List.mem_singleton.mp m
        omega
    · intro i j vi vj s' Q E h1 h2 K q
      obtain ⟨h', tk', rfl, kp⟩ := hkp K
      exact hc prog w i j vi vj h' tk' Q E (by simpa using h1) (by simpa using h2) kp q
    · exact ⟨⟨_, Heap.get?_push_of_some _ (Heap.get?_push_size _ rfl), rfl, rfl⟩, (hl.push _).push _⟩
    · intro v s' h1 K
      obtain ⟨h', tk', rfl, kp⟩ := hkp K
      exact h v h' tk' (by simpa using h1) kp
  exact call_function_meets rfl F.plain_min F.entry_min (F.args_min1 _) M ⟨rfl, rfl, fun v h' tk' hv hk => h v h' tk' hv hk⟩
end
end HT

set_option Elab.async false
set_option linter.all false
set_option maxRecDepth 100000
set_option maxHeartbeats 4000000
namespace HT
theorem lexLt_trans : ∀ {a b c : List Int}, lexLt a b = true → lexLt b c = true → lexLt a c = true
  | [], _ :: _, _ :: _, _, _ => rfl
  | x :: a, y :: b, z :: c, h1, h2 => by
    rw [lexLt_cons] at h1 h2 ⊢
    by_cases e1 : x = y
    · rw [if_pos e1] at h1
      subst e1
      by_cases e2 : x = z
      · rw [if_pos e2] at h2 ⊢
        exact lexLt_trans h1 h2
      · rw [if_neg e2] at h2 ⊢
        exact h2
    · rw [if_neg e1] at h1
      have h1' := of_decide_eq_true h1
      by_cases e2 : y = z
      · subst e2
        rw [if_neg e1]
        exact h1
      · rw [if_neg e2] at h2
        have h2' := of_decide_eq_true h2
        rw [if_neg (by omega)]
        exact decide_eq_true (by omega)
  | [], [], _, h1, _ => by simp [lexLt] at h1
  | _ :: _, [], _, h1, _ => by simp [lexLt] at h1
  | [], _ :: _, [], _, h2 => by simp [lexLt] at h2
  | _ :: _, _ :: _, [], _, h2 => by simp [lexLt] at h2
theorem lexLt_tot : ∀ {a b : List Int}, lexLt a b = false → lexLt b a = false → a = b
  | [], [], _, _ => rfl
  | [], _ :: _, h, _ => by simp [lexLt] at h
  | _ :: _, [], _, h => by simp [lexLt] at h
  | x :: a, y :: b, h1, h2 => by
    rw [lexLt_cons] at h1 h2
    by_cases e : x = y
    · rw [if_pos e] at h1
      rw [if_pos e.symm] at h2
      rw [e, lexLt_tot h1 h2]
    · rw [if_neg e] at h1
      rw [if_neg (Ne.symm e)] at h2
      have a1 := of_decide_eq_false h1
      have a2 := of_decide_eq_false h2
      omega
theorem pairLt_trans {p q r : Int × List Int} (h1 : pairLt p q = true) (h2 : pairLt q r = true) : pairLt p r = true := by
  unfold pairLt at *
  by_cases e1 : p.1 = q.1
  · rw [if_pos e1] at h1
    by_cases e2 : q.1 = r.1
    · rw [if_pos e2] at h2
      rw [if_pos (e1.trans e2)]
      exact lexLt_trans h1 h2
    · rw [if_neg e2] at h2
      rw [if_neg (by omega)]
      rw [e1]; exact h2
  · rw [if_neg e1] at h1
    have h1' := of_decide_eq_true h1
    by_cases e2 : q.1 = r.1
    · rw [if_neg (by omega)]
      rw [← e2]; exact h1
    · rw [if_neg e2] at h2
      have h2' := of_decide_eq_true h2
      rw [if_neg (by omega)]
      exact decide_eq_true (by omega)
theorem pairLt_self (p : Int × List Int) : pairLt p p = false := by unfold pairLt; rw [if_pos rfl]; exact lexLt_self _
open PySem in
theorem argBest_ord {lt : Nat → Nat → Bool} (irr : ∀ i, lt i i = false) (tr : ∀ i j k, lt i j = true → lt j k = true → lt i k = true) : ∀ k, argBest lt k ≤ k ∧ ∀ j, j ≤ k → lt j (argBest lt k) = false
  | 0 => ⟨Nat.le_refl _, fun j hj => by obtain rfl : j = 0 := by omega
                                        exact irr 0⟩
  | k + 1 => by
    obtain ⟨h1, h2⟩ := argBest_ord irr tr k
    rw [show argBest lt (k + 1) = if lt (k + 1) (argBest lt k) then k + 1 else argBest lt k from rfl]
    by_cases e : lt (k + 1) (argBest lt k) = true
    · rw [if_pos e]
      refine ⟨Nat.le_refl _, fun j hj => ?_⟩
      by_cases q : j = k + 1
      · rw [q]; exact irr _
      · cases z : lt j (k + 1) with
        | false => rfl
        | true => rw [← h2 j (by omega), tr j (k + 1) _ z e]
    · rw [if_neg e]
      refine ⟨by omega, fun j hj => ?_⟩
      by_cases q : j = k + 1
      · rw [q]; simpa using e
      · exact h2 j (by omega)
end HT
namespace L2
open PySem PySem.Spec PyProof.Rows
/-- a pair of an int and a list of ints -/
def PairH (H : Hp) (t : Addr) (q : Int × List Int) : Prop := ∃ l, H t = some (.tup [.int q.1, .ref l]) ∧ H l = some (.lst (iL q.2))
def rMinP (K : PySem.W.Frag) : List V → Hp → VK → Prop := fun xs H Q => ∃ (p : Addr) (ts : List Addr) (ps : List (Int × List Int)), xs = [.ref p] ∧ H p = some (.lst (ts.map V.ref)) ∧ Paired (PairH H) ts ps ∧ 0 < ps.length ∧
  ∀ (i : Nat) (t : Addr) (q : Int × List Int), ts[i]? = some t → ps[i]? = some q → (∀ r ∈ ps, HT.pairLt r q = false) → Q (.ref t) H
def rLtL : R2 := fun x y H Q => ∃ a b ns ms, x = .ref a ∧ y = .ref b ∧ H a = some (.lst (iL ns)) ∧ H b = some (.lst (iL ms)) ∧ Q (.bl (HT.lexLt ns ms)) H
section
variable {X : Cx}
theorem pair_at {pins : List (Addr × Obj)} {σ : St} {H : Hp} {s : Shared} (I : Inv X pins σ H s) {t : Addr} {q : Int × List Int} (h : PairH H t q) : HT.PairAt s.heap q (.ref t) := by
  obtain ⟨l, h1, h2⟩ := h
  obtain ⟨its, r, pt, _⟩ := I.tuple (SqT.of (K := X.K) h1)
  obtain ⟨⟨cls, dd, data, sl⟩, ho, hc, n, hd⟩ := id pt
  simp only at hc hd
  subst hc hd
  obtain ⟨_, its2, m, r2, _, e2⟩ := I.lstM h2
  cases r with
  | cons a1 rr =>
    obtain ⟨u, rfl, ru⟩ := (show Vals [V.ref l] _ from rr).one
    obtain ⟨tk, rfl⟩ := a1
    cases ru
    exact ⟨t, l, tk, its2, n, m, dd, sl, rfl, ho, e2, by simpa using intsAre_of r2⟩
theorem HT_pair_more {h h' : Heap} {q : Int × List Int} {v : Value} (p : HT.PairAt h q v) (hk : ∀ b o, h.get? b = some o → h'.get? b = some o) : HT.PairAt h' q v := by
  obtain ⟨a, l, t, vs, n, m, dd, sl, e, h1, h2, h3⟩ := p
  exact ⟨a, l, t, vs, n, m, dd, sl, e, hk _ _ h1, hk _ _ h2, h3⟩
theorem call_minPK (K : PySem.W.Frag) (hu : X.A.units + 64 < cLine) (hc : X.calm = true) : CallR X (.builtin "min") (rMinP K) := by
  intro pins s σ H xs us Q I r h
  obtain ⟨p, ts, ps, rfl, hp, hP, hn, q⟩ := h
  obtain ⟨u, rfl, ru⟩ := vals1 r
  cases ru
  obtain ⟨z, its, n, rv, hl, e⟩ := I.lstM hp
  have htl : ts.length = ps.length := hP.length
  have hil : its.length = ps.length := by rw [← hl]; simpa using htl
  have at_ : ∀ (i : Nat) (v : Value), its[i]? = some v → ∃ t w, v = .ref t ∧ ts[i]? = some t ∧ ps[i]? = some w ∧ HT.PairAt s.heap w v := by
    have go : ∀ {ts : List Addr} {ps : List (Int × List Int)} {its : List Value} (i : Nat) (v : Value), Paired (PairH H) ts ps → Vals (ts.map V.ref) its → its[i]? = some v → ∃ t w, v = .ref t ∧ ts[i]? = some t ∧ ps[i]? = some w ∧ HT.PairAt s.heap w v := by
      intro ts ps its i v P
      induction P generalizing its i with
      | nil => intro r e; cases r; simp at e
      | @cons t w ts ps h _ ih =>
        intro r e
        cases r with
        | cons r1 rr =>
          cases r1
          cases i with
          | zero => cases e; exact ⟨t, w, rfl, rfl, rfl, pair_at I h⟩
          | succ i => simpa using ih i rr (by simpa using e)
    exact fun i v e => go i v hP rv e
  refine HT.min_list (vs := its) (fun i j => match ps[i]?, ps[j]? with | some a, some b => HT.pairLt a b | _, _ => false) (I.ok.hd hc) ⟨_, e, rfl, n, rfl⟩ (by omega) ?_ ?_
  · intro prog w i j vi vj h' tk Q' E' e1 e2 hk q'
    obtain ⟨t1, w1, rfl, _, f1, p1⟩ := at_ i vi e1
    obtain ⟨t2, w2, rfl, _, f2, p2⟩ := at_ j vj e2
    simp only [f1, f2] at q'
    exact HT.rc_pair (HT_pair_more p1 hk) (HT_pair_more p2 hk) (by show X.A.units + 1 + 20 < cLine; omega) q'
  · intro v h' tk e1 hk
    obtain ⟨t1, w1, rfl, g1, f1, p1⟩ := at_ _ v e1
    have ord := HT.argBest_ord (lt := fun i j => match ps[i]?, ps[j]? with | some a, some b => HT.pairLt a b | _, _ => false) (fun i => by cases ps[i]? <;> simp [HT.pairLt_self]) (fun i j k a b => by
      revert a b
      cases ps[i]? <;> cases ps[j]? <;> cases ps[k]? <;> simp
      exact HT.pairLt_trans) (its.length - 1)
    refine ⟨.ref t1, H, I.kept (t' := tk) hk, rfl, q _ t1 w1 g1 f1 fun r hr => ?_⟩
    obtain ⟨j, hj, rfl⟩ := List.getElem_of_mem hr
    have := ord.2 j (by omega)
    simp only [List.getElem?_eq_getElem hj, f1] at this
    exact this
end
end L2

set_option Elab.async false
set_option linter.all false
namespace HT
theorem pairLt_tot {p q : Int × List Int} (h1 : pairLt p q = false) (h2 : pairLt q p = false) : p = q := by
  unfold pairLt at *
  by_cases e : p.1 = q.1
  · rw [if_pos e] at h1
    rw [if_pos e.symm] at h2
    exact Prod.ext e (lexLt_tot h1 h2)
  · rw [if_neg e] at h1
    rw [if_neg (Ne.symm e)] at h2
    have a1 := of_decide_eq_false h1
    have a2 := of_decide_eq_false h2
    omega
theorem pairLe_trans {p q r : Int × List Int} (h1 : pairLt p q = false) (h2 : pairLt q r = false) : pairLt p r = false := by
  cases z : pairLt p r with
  | false => rfl
  | true =>
    cases y : pairLt q p with
    | true => rw [pairLt_trans y z] at h2; cases h2
    | false => rw [pairLt_tot h1 y, h2] at z; cases z
theorem pairLt_cons {c x : Int} {p q : Int × List Int} (h : pairLt p q = false) : pairLt (c + p.1, x :: p.2) (c + q.1, x :: q.2) = false := by
  unfold pairLt at *
  by_cases e : p.1 = q.1
  · rw [if_pos e] at h
    rw [if_pos (by simp only; omega), lexLt_cons, if_pos rfl]
    exact h
  · rw [if_neg e] at h
    rw [if_neg (by simp only; omega)]
    have := of_decide_eq_false h
    exact decide_eq_false (by simp only; omega)
end HT
namespace M
open HT
/-! ### rounds -/
def wayO (D : Int → Int → Int) : Int → List Int → Int
  | _, [] => 0
  | last, x :: r => D last x + wayO D x r
def IsBest (D : Int → Int → Int) (last : Int) (nums : List Int) (p : Int × List Int) : Prop := p.2.Perm nums ∧ p.1 = wayO D last p.2 ∧ ∀ o : List Int, o.Perm nums → pairLt (wayO D last o, o) p = false
theorem IsBest.nil {D : Int → Int → Int} {last : Int} : IsBest D last [] (0, []) := ⟨.nil, rfl, fun o h => by rw [List.Perm.eq_nil h]; exact pairLt_self _⟩
theorem IsBest.uniq {D : Int → Int → Int} {last : Int} {nums : List Int} {p q : Int × List Int} (h : IsBest D last nums p) (h' : IsBest D last nums q) : p = q := by
  have a := h.2.2 q.2 h'.1
  have b := h'.2.2 p.2 h.1
  rw [← h'.2.1] at a
  rw [← h.2.1] at b
  exact pairLt_tot b a
def less (nums : List Int) (x : Int) : List Int := nums.filter fun y => decide (y ≠ x)
theorem perm_less {nums : List Int} (nd : nums.Nodup) {x : Int} (hx : x ∈ nums) : (x :: less nums x).Perm nums := by
  have e : less nums x = nums.erase x := by
    rw [List.Nodup.erase_eq_filter nd]
    refine List.filter_congr fun y _ => ?_
    rw [Bool.eq_iff_iff]
    simp
  rw [e]
  exact (List.perm_cons_erase hx).symm
theorem less_length {nums : List Int} (nd : nums.Nodup) {x : Int} (hx : x ∈ nums) : (less nums x).length + 1 = nums.length := by
  have := (perm_less nd hx).length_eq
  simpa using this
theorem IsBest.step {D : Int → Int → Int} {last : Int} {nums : List Int} (nd : nums.Nodup) {ps : List (Int × List Int)} (hps : ∀ p ∈ ps, ∃ x ∈ nums, ∃ q, IsBest D x (less nums x) q ∧ p = (D last x + q.1, x :: q.2)) (hall : ∀ x ∈ nums, ∃ q, IsBest D x (less nums x) q ∧ (D last x + q.1, x :: q.2) ∈ ps)
    {p : Int × List Int} (hp : p ∈ ps) (hm : ∀ r ∈ ps, pairLt r p = false) (hne : nums ≠ []) : IsBest D last nums p := by
  obtain ⟨x, hx, q, hq, rfl⟩ := hps p hp
  refine ⟨(hq.1.cons x).trans (perm_less nd hx), by simp only [wayO]; rw [hq.2.1], fun o ho => ?_⟩
  cases o with
  | nil => exact absurd (List.Perm.nil_eq ho).symm hne
  | cons y o =>
    have hy : y ∈ nums := ho.subset List.mem_cons_self
    obtain ⟨z, hz, hzm⟩ := hall y hy
    have hp2 : o.Perm (less nums y) := (ho.trans (perm_less nd hy).symm).cons_inv
    exact pairLe_trans (pairLt_cons (c := D last y) (x := y) (hz.2.2 o hp2)) (hm _ hzm)
/-- the numbers from 0 on -/
def upto (n : Nat) : List Int := (List.range n).map fun i : Nat => (i : Int)
theorem upto_length (n : Nat) : (upto n).length = n := by simp [upto]
theorem mem_upto {n : Nat} {x : Int} : x ∈ upto n ↔ 0 ≤ x ∧ x < n := by
  unfold upto
  rw [List.mem_map]
  constructor
  · rintro ⟨i, hi, rfl⟩
    have := List.mem_range.mp hi
    omega
  · intro h
    exact ⟨x.toNat, List.mem_range.mpr (by omega), by omega⟩
theorem upto_nodup (n : Nat) : (upto n).Nodup := by
  unfold upto
  refine List.pairwise_map.mpr (List.nodup_range.imp fun {a b} h e => h (by omega))
/-- orders of so many numbers -/
def OrdN (n k : Nat) (o : List Int) : Prop := o.Nodup ∧ o.length = k ∧ ∀ x ∈ o, 0 ≤ x ∧ x < n
def endO : Int → List Int → Int
  | last, [] => last
  | _, x :: r => endO x r
end M

set_option Elab.async false
set_option linter.all false
set_option maxRecDepth 100000
namespace L2
open PySem PySem.Spec PyProof.Rows
/-! ### list(zip(xs, ys)) -/
abbrev IsZipK (h : Heap) (z TI TO T : Addr) (b : Bool) : Prop :=
  h.get? z = some { cls := .type "zip", dict := none, data := .fields #[rawInt T, .bool b, .bool false, .ref TI, .ref TO], slots := #[] }
section
variable {prog : Program} {w : World} {A : Around} {E : Value → Shared → Prop} {s : Shared}
theorem wpAny_loadIfAlive {M : Model} {a : Addr} {Q : Option Obj → Shared → Prop} (h : Q (s.heap.get? a) s) : wpAny M A (loadIfAlive a) Q E s := fun Γ p hΓ => by
  unfold loadIfAlive
  rw [Sem.wp_loadIfAlive]
  exact wpAny_pure (M := M) (A := A) (E := E) h Γ p hΓ
theorem owned_kept {z TI TO T : Addr} {b : Bool} {oT : Obj} {Q : Bool → Shared → Prop} (hz : IsZipK s.heap z TI TO T b) (hT : s.heap.get? T = some oT)
    (hQ : ∀ h', IsZipK h' z TI TO T true → Heap.SameBut z s.heap h' → Q false { s with heap := h' }) : wpAny (model prog w) A (Builtin.SmallTypes.ownedTupleIsFree (.ref z)) Q E s := by
  unfold Builtin.SmallTypes.ownedTupleIsFree
  refine wpAny_bind (wpAny_field hz rfl (x := rawInt T) rfl ?_)
  show wpAny _ _ (loadIfAlive ((T : Int).toNat) >>= _) _ _ _
  rw [Int.toNat_natCast]
  refine wpAny_bind (wpAny_loadIfAlive ?_)
  rw [hT]
  simp only [Option.isNone_some, Bool.false_eq_true, if_false]
  refine wpAny_bind (wpAny_field hz rfl (x := .bool b) rfl ?_)
  cases b with
  | true =>
    simp only [bne_self_eq_false, Bool.false_eq_true, if_false]
    exact wpAny_pure (hQ _ hz (Heap.SameBut.refl ..))
  | false =>
    have : (Value.bool false != Value.bool true) = true := by decide
    simp only [this, if_true]
    refine wpAny_bind (wpAny_setField_rec hz (by simp) fun h' hz' hs' => ?_)
    exact wpAny_pure (hQ h' hz' hs')
theorem zip_next_kept {z TI TO i1 i2 l1 l2 T : Addr} {b : Bool} {oT : Obj} {k1 k2 : Nat} {xs ys : Array Value} {x y : Value} {Q : Value → Shared → Prop} (D : ZipApart z TI TO i1 i2 l1 l2)
    (hz : IsZipK s.heap z TI TO T b) (hT : s.heap.get? T = some oT) (hTI : IsPair s.heap TI (.ref i1) (.ref i2))
    (h1 : s.heap.IsListIter i1 l1 k1) (h2 : s.heap.IsListIter i2 l2 k2) (hl1 : s.heap.IsList l1 xs) (hl2 : s.heap.IsList l2 ys) (hx : xs[k1]? = some x) (hy : ys[k2]? = some y)
    (hQ : ∀ h', IsZipK h' z TI TO T true → h'.IsListIter i1 l1 (k1 + 1) → h'.IsListIter i2 l2 (k2 + 1) → IsPair h' s.heap.objs.size x y → h'.objs.size = s.heap.objs.size + 1 →
      (∀ c o, c ≠ z → c ≠ i1 → c ≠ i2 → s.heap.get? c = some o → h'.get? c = some o) → Q (.ref s.heap.objs.size) { s with heap := h' }) :
    wpAny (model prog w) A (Builtin.«zip.__next__» ⟨[.ref z], []⟩) (fun fin s' => ∃ v, fin = .done (.ret v) ∧ Q v s') E s := by
  show wpAny _ _ (field (.ref z) 2 >>= _) _ _ _
  refine wpAny_bind (wpAny_field hz rfl (x := .bool false) rfl ?_)
  show wpAny _ _ (field (.ref z) 3 >>= _) _ _ _
  refine wpAny_bind (wpAny_field hz rfl (x := .ref TI) rfl ?_)
  refine wpAny_bind (wpAny_seqItems hTI rfl ?_)
  show wpAny _ _ (Builtin.SmallTypes.ownedTupleIsFree (.ref z) >>= _) _ _ _
  refine wpAny_bind (owned_kept hz hT fun h₁ hz₁ hs₁ => ?_)
  simp only [Bool.false_eq_true, if_false]
  rw [← Array.forIn_toList]
  simp only [List.forIn_cons, List.forIn_nil]
  refine wpAny_bind (wpAny_bind (wpAny_bind (wpAny_holding ?_)))
  show wpAny _ _ (Builtin.SmallTypes.nextOf (.ref i1) >>= _) _ _ _
  refine wpAny_bind (wpAny_nextOf_list_item (h1.extBut hs₁.extBut D.i1z) (hl1.extBut hs₁.extBut D.l1z) hx fun h₂ h1₂ hs₂ => wpAny_pure ?_)
  refine wpAny_pure ?_
  refine wpAny_bind (wpAny_bind (wpAny_holding ?_))
  show wpAny _ _ (Builtin.SmallTypes.nextOf (.ref i2) >>= _) _ _ _
  refine wpAny_bind (wpAny_nextOf_list_item ((h2.extBut hs₁.extBut D.i2z).extBut hs₂.extBut D.i12.symm) ((hl2.extBut hs₁.extBut D.l2z).extBut hs₂.extBut D.l2i1) hy fun h₃ h2₃ hs₃ => wpAny_pure ?_)
  refine wpAny_pure (wpAny_pure ?_)
  refine wpAny_bind (wpAny_newTuple ?_ (by show 2 ≤ sizeLine; exact szl (by decide)))
  have hsz : h₃.objs.size = s.heap.objs.size := by rw [hs₃.1, hs₂.1, hs₁.1]
  have hz₃ : IsZipK h₃ z TI TO T true := hs₃.extBut _ _ D.i2z.symm (hs₂.extBut _ _ D.i1z.symm hz₁)
  have hk₃ : ∀ c o, c ≠ z → c ≠ i1 → c ≠ i2 → s.heap.get? c = some o → h₃.get? c = some o := fun c o c1 c3 c4 e => hs₃.extBut _ _ c4 (hs₂.extBut _ _ c3 (hs₁.extBut _ _ c1 e))
  have h1₃ : h₃.IsListIter i1 l1 (k1 + 1) := h1₂.extBut hs₃.extBut D.i12
  refine wpAny_pure ⟨_, rfl, ?_⟩
  show Q (.ref h₃.objs.size) _
  rw [hsz]
  refine hQ _ (Heap.get?_push_of_some _ hz₃) ?_ ?_ ?_ ?_ fun c o c1 c2 c3 e => Heap.get?_push_of_some _ (hk₃ c o c1 c2 c3 e)
  · obtain ⟨o, e, r⟩ := h1₃; exact ⟨o, Heap.get?_push_of_some _ e, r⟩
  · obtain ⟨o, e, r⟩ := h2₃; exact ⟨o, Heap.get?_push_of_some _ e, r⟩
  · rw [← hsz]; exact Heap.get?_push_size _ rfl
  · rw [Heap.size_push, hsz]
theorem zip_next_kend {z TI TO i1 i2 l1 l2 T : Addr} {b : Bool} {oT : Obj} {k1 k2 : Nat} {xs ys : Array Value} {Q : Fin → Shared → Prop} (hh : A.handled = none) (D : ZipApart z TI TO i1 i2 l1 l2)
    (hz : IsZipK s.heap z TI TO T b) (hT : s.heap.get? T = some oT) (hTI : IsPair s.heap TI (.ref i1) (.ref i2))
    (h1 : s.heap.IsListIter i1 l1 k1) (h2 : s.heap.IsListIter i2 l2 k2) (hl1 : s.heap.IsList l1 xs) (hl2 : s.heap.IsList l2 ys) (hend : xs[k1]? = none ∨ ys[k2]? = none)
    (hE : ∀ h' e, (∀ c o, c ≠ z → c ≠ i1 → c ≠ i2 → s.heap.get? c = some o → h'.get? c = some o) → (∃ o, h'.get? e = some o ∧ o.cls = .type "StopIteration") → E (.ref e) { s with heap := h' }) :
    wpAny (model prog w) A (Builtin.«zip.__next__» ⟨[.ref z], []⟩) Q E s := by
  show wpAny _ _ (field (.ref z) 2 >>= _) _ _ _
  refine wpAny_bind (wpAny_field hz rfl (x := .bool false) rfl ?_)
  show wpAny _ _ (field (.ref z) 3 >>= _) _ _ _
  refine wpAny_bind (wpAny_field hz rfl (x := .ref TI) rfl ?_)
  refine wpAny_bind (wpAny_seqItems hTI rfl ?_)
  show wpAny _ _ (Builtin.SmallTypes.ownedTupleIsFree (.ref z) >>= _) _ _ _
  refine wpAny_bind (owned_kept hz hT fun h₁ hz₁ hs₁ => ?_)
  simp only [Bool.false_eq_true, if_false]
  rw [← Array.forIn_toList]
  simp only [List.forIn_cons, List.forIn_nil]
  refine wpAny_bind (wpAny_bind (wpAny_bind (wpAny_holding ?_)))
  show wpAny _ _ (Builtin.SmallTypes.nextOf (.ref i1) >>= _) _ _ _
  cases hx : xs[k1]? with
  | none =>
    refine wpAny_bind (wpAny_nextOf_list_end hh (h1.extBut hs₁.extBut D.i1z) (hl1.extBut hs₁.extBut D.l1z) hx fun h₂ e hs₂ he => ?_)
    exact hE h₂ e (fun c o c1 c3 _ x => hs₂ _ _ c3 (hs₁.extBut _ _ c1 x)) he
  | some x =>
    have hy : ys[k2]? = none := by rcases hend with h | h; rw [hx] at h; cases h; exact h
    refine wpAny_bind (wpAny_nextOf_list_item (h1.extBut hs₁.extBut D.i1z) (hl1.extBut hs₁.extBut D.l1z) hx fun h₂ h1₂ hs₂ => wpAny_pure ?_)
    refine wpAny_pure ?_
    refine wpAny_bind (wpAny_bind (wpAny_holding ?_))
    show wpAny _ _ (Builtin.SmallTypes.nextOf (.ref i2) >>= _) _ _ _
    refine wpAny_bind (wpAny_nextOf_list_end hh ((h2.extBut hs₁.extBut D.i2z).extBut hs₂.extBut D.i12.symm) ((hl2.extBut hs₁.extBut D.l2z).extBut hs₂.extBut D.l2i1) hy fun h₃ e hs₃ he => ?_)
    exact hE h₃ e (fun c o c1 c3 c4 x => hs₃ _ _ c4 (hs₂.extBut _ _ c3 (hs₁.extBut _ _ c1 x))) he
/-- a zip between two steps: nothing handed out yet, or something that is kept -/
def ZipL (z TI TO i1 i2 a b : Addr) (i : Nat) (h : Heap) : Prop := ((IsZip h z TI TO .none ∧ ∃ u v, IsPair h TO u v) ∨ (∃ T bb oT, IsZipK h z TI TO T bb ∧ h.get? T = some oT ∧ T ≠ z ∧ T ≠ TO ∧ T ≠ i1 ∧ T ≠ i2)) ∧ IsPair h TI (.ref i1) (.ref i2) ∧ h.IsListIter i1 a i ∧ h.IsListIter i2 b i
theorem next_zipL {z TI TO i1 i2 l1 l2 : Addr} {k : Nat} {xs ys : Array Value} {x y : Value} {Q : Option Value → Shared → Prop} (D : ZipApart z TI TO i1 i2 l1 l2) (hz : ZipL z TI TO i1 i2 l1 l2 k s.heap)
    (hl1 : s.heap.IsList l1 xs) (hl2 : s.heap.IsList l2 ys) (hx : xs[k]? = some x) (hy : ys[k]? = some y)
    (hQ : ∀ h', ZipL z TI TO i1 i2 l1 l2 (k + 1) h' → IsPair h' s.heap.objs.size x y → (∀ c o, c ≠ z → c ≠ TO → c ≠ i1 → c ≠ i2 → s.heap.get? c = some o → h'.get? c = some o) → Q (some (.ref s.heap.objs.size)) { s with heap := h' }) :
    wpAny (model prog w) A (pyNext (.ref z)) Q E s := by
  obtain ⟨hz, hTI, h1, h2⟩ := hz
  have lti1 : i1 < s.heap.objs.size := by obtain ⟨_, e, _⟩ := h1; exact Heap.lt_size e
  have lti2 : i2 < s.heap.objs.size := by obtain ⟨_, e, _⟩ := h2; exact Heap.lt_size e
  rcases hz with ⟨hz, u, v, hTO⟩ | ⟨T, bb, oT, hz, hT, n1, n2, n3, n4⟩
  · refine wpAny_pyNext_zip_item D hz hTI hTO h1 h2 hl1 hl2 hx hy fun h' a1 a2 a3 a4 a5 a6 a7 => hQ h' ⟨.inr ⟨_, false, _, a1, a5, Nat.ne_of_gt (Heap.lt_size hz), Nat.ne_of_gt (Heap.lt_size hTO), Nat.ne_of_gt lti1, Nat.ne_of_gt lti2⟩, a7 _ _ D.TIz D.TITO D.TIi1 D.TIi2 hTI, a3, a4⟩ a5 a7
  · have hTy : s.TypeIs (.ref z) "zip" := ⟨_, hz, rfl⟩
    unfold pyNext
    refine wpAny_bind (wpAny_attempt (wpAny_callSpecial?_slot (name := Str.ofString "__next__") hTy F.slot_zip_next
      (wpAny_call_entry F.slot_zip_next hTy F.entry_zip_next
        (zip_next_kept D hz hT hTI h1 h2 hl1 hl2 hx hy fun h' a1 a3 a4 a5 a6 a7 => wpAny_pure (hQ h' ⟨.inr ⟨T, true, oT, a1, a7 _ _ n1 n3 n4 hT, n1, n2, n3, n4⟩, a7 _ _ D.TIz D.TIi1 D.TIi2 hTI, a3, a4⟩ a5 fun c o c1 _ c3 c4 e => a7 c o c1 c3 c4 e)) (F.args_zip_next_1 _))))
theorem end_zipL {z TI TO i1 i2 l1 l2 : Addr} {k : Nat} {xs ys : Array Value} {Q : Option Value → Shared → Prop} (hh : A.handled = none) (D : ZipApart z TI TO i1 i2 l1 l2) (hz : ZipL z TI TO i1 i2 l1 l2 k s.heap)
    (hl1 : s.heap.IsList l1 xs) (hl2 : s.heap.IsList l2 ys) (hend : xs[k]? = none ∨ ys[k]? = none)
    (hQ : ∀ h', (∀ c o, c ≠ z → c ≠ TO → c ≠ i1 → c ≠ i2 → s.heap.get? c = some o → h'.get? c = some o) → Q none { s with heap := h' }) :
    wpAny (model prog w) A (pyNext (.ref z)) Q E s := by
  obtain ⟨hz, hTI, h1, h2⟩ := hz
  rcases hz with ⟨hz, u, v, hTO⟩ | ⟨T, bb, oT, hz, hT, n1, n2, n3, n4⟩
  · exact wpAny_pyNext_zip_end hh D hz hTI hTO h1 h2 hl1 hl2 hend hQ
  · have hTy : s.TypeIs (.ref z) "zip" := ⟨_, hz, rfl⟩
    unfold pyNext
    refine wpAny_bind (wpAny_attempt (wpAny_callSpecial?_slot (name := Str.ofString "__next__") hTy F.slot_zip_next
      (wpAny_call_entry F.slot_zip_next hTy F.entry_zip_next (zip_next_kend hh D hz hT hTI h1 h2 hl1 hl2 hend fun h' e hk he => ?_) (F.args_zip_next_1 _))))
    obtain ⟨o, ho, hc⟩ := he
    refine wpAny_bind (wpAny_isInstance (T := "StopIteration") (b := true) ⟨o, ho, hc⟩ isSubtype_stop ?_)
    exact wpAny_pure (hQ _ fun c o c1 _ c3 c4 e => hk c o c1 c3 c4 e)
end
section
variable {prog : Program} {w : World} {A : Around} {R : Result → Shared → Prop}
/-- what has been collected: new pairs -/
def Got (n0 : Nat) (xs ys : Array Value) (h : Heap) (Ts : List Addr) : Prop := ∀ (k : Nat) (T : Addr), Ts[k]? = some T → n0 ≤ T ∧ ∃ x y, xs[k]? = some x ∧ ys[k]? = some y ∧ IsPair h T x y
theorem loop_zipL {z TI TO i1 i2 l1 l2 S : Addr} {xs ys : Array Value} {n0 : Nat} {res : Value} (hh : A.in1.handled = none) (D : ZipApart z TI TO i1 i2 l1 l2) (hS4 : S ≠ z ∧ S ≠ TO ∧ S ≠ i1 ∧ S ≠ i2) (hSl : S ≠ l1 ∧ S ≠ l2 ∧ S ≠ TI) (h4 : n0 ≤ S)
    (hn : min xs.size ys.size ≤ sizeLine) :
    ∀ (m k : Nat) (s : Shared) (Ts : List Addr) (c : Nat), min xs.size ys.size - k = m → k ≤ min xs.size ys.size → n0 ≤ s.heap.objs.size → (∀ q ∈ [z, TO, i1, i2, S], q < s.heap.objs.size) → ZipL z TI TO i1 i2 l1 l2 k s.heap → s.heap.IsList l1 xs → s.heap.IsList l2 ys → Ts.length = k → Got n0 xs ys s.heap Ts →
      (∀ T ∈ Ts, T ≠ z ∧ T ≠ TO ∧ T ≠ i1 ∧ T ≠ i2 ∧ T ≠ S) → Ts.Nodup →
      s.heap.get? S = some { cls := .type "list", dict := none, data := .seq (Ts.map Value.ref).toArray c, slots := #[] } →
      (∀ h' Ts' c', (∀ b o, b ≠ z → b ≠ TO → b ≠ i1 → b ≠ i2 → b ≠ S → s.heap.get? b = some o → h'.get? b = some o) → h'.get? S = some { cls := .type "list", dict := none, data := .seq (Ts'.map Value.ref).toArray c', slots := #[] } → Ts'.length = min xs.size ys.size → Got n0 xs ys h' Ts' → (∀ T ∈ Ts', T ≠ S) → Ts'.Nodup → R (.ok (.ret res)) { s with heap := h' }) →
      codeAny (model prog w) A (.builtin "list.extend.loop" ⟨[.ref S, .ref z, res], []⟩) R s
  | 0, k, s, Ts, c, hm, hk, hsz, hlt, hz, hl1, hl2, hTl, hG, hTs, hnd, hS, hR => by
    refine codeAny_builtin F.entry_extend_loop ?_
    rw [Around.under_plainId F.plain_extend_loop _]
    show wpAny _ A.in1 (pyNext (.ref z) >>= _) _ _ s
    refine wpAny_bind (end_zipL hh D hz hl1 hl2 ?_ fun h' kp => ?_)
    · by_cases e : k < xs.size
      · right; exact Array.getElem?_eq_none (by omega)
      · left; exact Array.getElem?_eq_none (by omega)
    · refine wpAny_pure (hR h' Ts c (fun b o b1 b2 b3 b4 _ e => kp b o b1 b2 b3 b4 e) (kp _ _ hS4.1 hS4.2.1 hS4.2.2.1 hS4.2.2.2 hS) (by omega) ?_ (fun T hT => (hTs T hT).2.2.2.2) hnd)
      intro j T hT
      obtain ⟨a, x, y, e1, e2, e3⟩ := hG j T hT
      obtain ⟨q1, q2, q3, q4, _⟩ := hTs T (List.mem_of_getElem? hT)
      exact ⟨a, x, y, e1, e2, kp _ _ q1 q2 q3 q4 e3⟩
  | m + 1, k, s, Ts, c, hm, hk, hsz, hlt, hz, hl1, hl2, hTl, hG, hTs, hnd, hS, hR => by
    refine codeAny_builtin F.entry_extend_loop ?_
    rw [Around.under_plainId F.plain_extend_loop _]
    show wpAny _ A.in1 (pyNext (.ref z) >>= _) _ _ s
    have hkx : k < xs.size := by omega
    have hky : k < ys.size := by omega
    refine wpAny_bind (next_zipL (x := xs[k]) (y := ys[k]) D hz hl1 hl2 (by simp [hkx]) (by simp [hky]) fun h' hz' hp' kp => ?_)
    have nT : ∀ q ∈ [z, TO, i1, i2, S], s.heap.objs.size ≠ q := fun q hq => Nat.ne_of_gt (hlt q hq)
    have hS' := kp _ _ hS4.1 hS4.2.1 hS4.2.2.1 hS4.2.2.2 hS
    have hl1' : h'.IsList l1 xs := by obtain ⟨o, e, r⟩ := hl1; exact ⟨o, kp _ _ D.l1z D.l1TO D.l1i1 D.l1i2 e, r⟩
    have hl2' : h'.IsList l2 ys := by obtain ⟨o, e, r⟩ := hl2; exact ⟨o, kp _ _ D.l2z D.l2TO D.l2i1 D.l2i2 e, r⟩
    have hsz' : s.heap.objs.size < h'.objs.size := Heap.lt_size hp'
    show wpAny _ A.in1 (updateSeq S (·.push (.ref s.heap.objs.size)) >>= _) _ _ _
    refine wpAny_bind ?_
    refine wpAny_updateSeq hS' rfl ?_ (by simp; omega) (by show ((Ts.map Value.ref).toArray.push _).size ≤ sizeLine + 1; simp; omega)
    have up : ∀ b o, b ≠ S → h'.get? b = some o → (h'.update S (Obj.mapSeq (·.push (Value.ref s.heap.objs.size)))).get? b = some o := fun b o hb e => (Heap.get?_update_other _ _ (Ne.symm hb)).trans e
    have hSS := Heap.get?_update_self (Obj.mapSeq (·.push (Value.ref s.heap.objs.size))) hS' rfl
    refine wpAny_pure ⟨plainId_quiet F.plain_extend_loop _, loop_zipL hh D hS4 hSl h4 hn m (k + 1) _ (Ts ++ [s.heap.objs.size]) (c + 1) (by omega) (by omega) ?_ ?_ ?_ ?_ ?_ (by simp; omega) ?_ ?_ ?_ ?_ ?_⟩
    · show n0 ≤ (h'.update S _).objs.size
      rw [Heap.size_update]; omega
    · intro q hq
      show q < (h'.update S _).objs.size
      rw [Heap.size_update]
      exact Nat.lt_trans (hlt q hq) hsz'
    · obtain ⟨a1, a2, a3, a4⟩ := hz'
      refine ⟨?_, up _ _ (Ne.symm hSl.2.2) a2, a3.at fun o e => up _ _ (Ne.symm hS4.2.2.1) e, a4.at fun o e => up _ _ (Ne.symm hS4.2.2.2) e⟩
      rcases a1 with ⟨e, u, v, e2⟩ | ⟨T, bb, oT, e, e2, r⟩
      · exact .inl ⟨up _ _ (Ne.symm hS4.1) e, u, v, up _ _ (Ne.symm hS4.2.1) e2⟩
      · by_cases q : T = S
        · subst q
          exact .inr ⟨T, bb, _, up _ _ (Ne.symm hS4.1) e, hSS, r⟩
        · exact .inr ⟨T, bb, oT, up _ _ (Ne.symm hS4.1) e, up _ _ q e2, r⟩
    · obtain ⟨o, e, r⟩ := hl1'; exact ⟨o, up _ _ (Ne.symm hSl.1) e, r⟩
    · obtain ⟨o, e, r⟩ := hl2'; exact ⟨o, up _ _ (Ne.symm hSl.2.1) e, r⟩
    · intro j T hT
      by_cases hj : j < Ts.length
      · rw [List.getElem?_append_left hj] at hT
        obtain ⟨a, x, y, e1, e2, e3⟩ := hG j T hT
        obtain ⟨q1, q2, q3, q4, q5⟩ := hTs T (List.mem_of_getElem? hT)
        exact ⟨a, x, y, e1, e2, up _ _ q5 (kp _ _ q1 q2 q3 q4 e3)⟩
      · rw [List.getElem?_append_right (by omega)] at hT
        have hj2 : j = k := by
          have := (List.getElem?_eq_some_iff.mp hT).1
          simp at this
          omega
        subst hj2
        rw [hTl, Nat.sub_self] at hT
        simp at hT
        subst hT
        exact ⟨hsz, xs[j], ys[j], by simp [hkx], by simp [hky], up _ _ (nT S (by simp)) hp'⟩
    · intro T hT
      rcases List.mem_append.mp hT with q | q
      · exact hTs T q
      · simp at q
        subst q
        exact ⟨nT _ (by simp), nT _ (by simp), nT _ (by simp), nT _ (by simp), nT _ (by simp)⟩
    · rw [List.nodup_append]
      refine ⟨hnd, by simp, fun a ha b hb => ?_⟩
      simp at hb
      subst hb
      intro e
      subst e
      obtain ⟨j, hj⟩ := List.mem_iff_getElem?.mp ha
      obtain ⟨_, x, y, _, _, e3⟩ := hG j _ hj
      exact Nat.lt_irrefl _ (Heap.lt_size e3)
    · refine hSS.trans ?_
      simp [Obj.mapSeq]
    · intro h2 Ts' c' kp2 hS2 hl hG2 hT2 hn2
      exact hR h2 Ts' c' (fun b o b1 b2 b3 b4 b5 e => kp2 b o b1 b2 b3 b4 b5 (up b o b5 (kp b o b1 b2 b3 b4 e))) hS2 hl hG2 hT2 hn2
end

theorem zip_no_len : typeLookup (.type "zip") "__len__" = pure none := by rw [typeLookup_type, builtinLookup_eq_fast]; kernel_rfl
theorem zip_no_hint : typeLookup (.type "zip") "__length_hint__" = pure none := by rw [typeLookup_type, builtinLookup_eq_fast]; kernel_rfl
section
variable {prog : Program} {w : World} {A : Around} {R : Result → Shared → Prop} {s : Shared}
theorem ZipL.ty {z TI TO i1 i2 l1 l2 : Addr} {k : Nat} (h : ZipL z TI TO i1 i2 l1 l2 k s.heap) : s.TypeIs (.ref z) "zip" := by
  rcases h.1 with ⟨e, _⟩ | ⟨_, _, _, e, _⟩
  · exact ⟨_, e, rfl⟩
  · exact ⟨_, e, rfl⟩
theorem ZipL.kept {z TI TO i1 i2 l1 l2 : Addr} {k : Nat} {h h' : Heap} (x : ZipL z TI TO i1 i2 l1 l2 k h) (up : ∀ b o, h.get? b = some o → (b = z ∨ b = TI ∨ b = TO ∨ b = i1 ∨ b = i2) → h'.get? b = some o) (upT : ∀ T bb, IsZipK h z TI TO T bb → ∀ o, h.get? T = some o → ∃ o', h'.get? T = some o') : ZipL z TI TO i1 i2 l1 l2 k h' := by
  obtain ⟨a1, a2, a3, a4⟩ := x
  refine ⟨?_, up _ _ a2 (by simp), a3.at fun o e => up _ _ e (by simp), a4.at fun o e => up _ _ e (by simp)⟩
  rcases a1 with ⟨e, u, v, e2⟩ | ⟨T, bb, oT, e, e2, r⟩
  · exact .inl ⟨up _ _ e (by simp), u, v, up _ _ e2 (by simp)⟩
  · obtain ⟨o', e3⟩ := upT T bb e oT e2
    exact .inr ⟨T, bb, o', up _ _ e (by simp), e3, r⟩
theorem extend_zipL {z TI TO i1 i2 l1 l2 S : Addr} {xs ys : Array Value} {n0 c₀ : Nat} {res : Value} (hh : A.in1.handled = none) (D : ZipApart z TI TO i1 i2 l1 l2) (hS4 : S ≠ z ∧ S ≠ TO ∧ S ≠ i1 ∧ S ≠ i2) (hSl : S ≠ l1 ∧ S ≠ l2 ∧ S ≠ TI) (h4 : n0 ≤ S)
    (hn : min xs.size ys.size ≤ sizeLine) (hsz : n0 ≤ s.heap.objs.size) (hlt : ∀ q ∈ [z, TO, i1, i2, S], q < s.heap.objs.size) (hz0 : IsZip s.heap z TI TO .none) (hz : ZipL z TI TO i1 i2 l1 l2 0 s.heap) (hl1 : s.heap.IsList l1 xs) (hl2 : s.heap.IsList l2 ys)
    (hS : s.heap.get? S = some { cls := .type "list", data := .seq #[] c₀ })
    (hR : ∀ h' Ts' c', (∀ b o, b ≠ z → b ≠ TO → b ≠ i1 → b ≠ i2 → b ≠ S → s.heap.get? b = some o → h'.get? b = some o) → h'.get? S = some { cls := .type "list", dict := none, data := .seq (Ts'.map Value.ref).toArray c', slots := #[] } → Ts'.length = min xs.size ys.size → Got n0 xs ys h' Ts' → (∀ T ∈ Ts', T ≠ S) → Ts'.Nodup → R (.ok (.ret res)) { s with heap := h' }) :
    wpAny (model prog w) A.in1 (Builtin.List.listExtendWith (.ref S) (.ref z) res)
      (fun fin s' => match fin with | .done f => R (.ok f) s' | .again c' => c'.quiet = true ∧ codeAny (model prog w) A c' R s') (fun e s' => R (.error e) s') s := by
  unfold Builtin.List.listExtendWith
  refine wpAny_bind (wpAny_typeOf hz.ty ?_)
  have h1 : Builtin.List.listSameRef (.ref S) (.ref z) = false := by simp [Builtin.List.listSameRef, hS4.1]
  have h2 : (Value.type "zip" == Value.type "list") = false := by decide
  have h3 : (Value.type "zip" == Value.type "tuple") = false := by decide
  simp only [h1, h2, h3, Bool.or_false, Bool.false_eq_true, if_false]
  refine wpAny_bind (wpAny_pyIter_zip hz0 ?_)
  refine wpAny_bind (wpAny_holding ?_)
  unfold Builtin.List.listLengthHint
  refine wpAny_bind (wpAny_specialOf hz.ty zip_no_len ?_)
  show wpAny _ A.in1 (specialOf (Value.ref z) (Str.ofString "__length_hint__") >>= _) _ _ _
  refine wpAny_bind (wpAny_specialOf hz.ty zip_no_hint ?_)
  refine wpAny_pure ?_
  show wpAny _ A.in1 (rule "list.extend.makes-room" >>= fun _ => Builtin.List.listTouch (.ref S) >>= fun _ =>
    again (.builtin "list.extend.loop" ⟨[.ref S, .ref z, res], []⟩)) _ _ _
  refine wpAny_bind (wpAny_rule ?_)
  refine wpAny_bind ?_
  show wpAny _ A.in1 (updateSeq S (·.push .none) >>= fun _ => updateSeq S (·.pop)) _ _ _
  refine wpAny_bind (wpAny_updateSeq hS rfl ?_)
  have hS₂ := Heap.get?_update_self (Obj.mapSeq (·.push Value.none)) hS rfl
  refine wpAny_updateSeq (hz := by seq_fits) hS₂ rfl ?_
  have hS₃ := Heap.get?_update_self (Obj.mapSeq (·.pop)) hS₂ rfl
  have oth : ∀ b o, b ≠ S → s.heap.get? b = some o → ((s.heap.update S (Obj.mapSeq (·.push Value.none))).update S (Obj.mapSeq (·.pop))).get? b = some o :=
    fun b o hb e => (Heap.get?_update_other _ _ (Ne.symm hb)).trans ((Heap.get?_update_other _ _ (Ne.symm hb)).trans e)
  have hsz2 : ((s.heap.update S (Obj.mapSeq (·.push Value.none))).update S (Obj.mapSeq (·.pop))).objs.size = s.heap.objs.size := by rw [Heap.size_update, Heap.size_update]
  refine wpAny_pure ⟨plainId_quiet F.plain_extend_loop _, loop_zipL hh D hS4 hSl h4 hn _ 0 _ [] _ rfl (Nat.zero_le _) (by show n0 ≤ _; rw [hsz2]; exact hsz) (fun q hq => by show q < _; rw [hsz2]; exact hlt q hq) ?_ ?_ ?_ rfl ?_ (fun T hT => absurd hT (by simp)) (by simp) hS₃ fun h' Ts' c' kp a1 a2 a3 a4 a5 => hR h' Ts' c' (fun b o b1 b2 b3 b4 b5 e => kp b o b1 b2 b3 b4 b5 (oth b o b5 e)) a1 a2 a3 a4 a5⟩
  · refine hz.kept (fun b o e q => oth b o ?_ e) fun T bb e => by have e2 := hz0.symm.trans e; simp [rawInt] at e2
    rcases q with rfl | rfl | rfl | rfl | rfl
    · exact hS4.1.symm
    · exact hSl.2.2.symm
    · exact hS4.2.1.symm
    · exact hS4.2.2.1.symm
    · exact hS4.2.2.2.symm
  · obtain ⟨o, e, r⟩ := hl1; exact ⟨o, oth _ _ hSl.1.symm e, r⟩
  · obtain ⟨o, e, r⟩ := hl2; exact ⟨o, oth _ _ hSl.2.1.symm e, r⟩
  · intro j T hT; simp at hT
end
section
variable {prog : Program} {w : World} {A : Around} {E : Value → Shared → Prop} {s : Shared}
theorem call_list_zipL {z TI TO i1 i2 l1 l2 : Addr} {xs ys : Array Value} {n0 : Nat} {Q : Value → Shared → Prop} (hh : A.in1.in1.handled = none) (D : ZipApart z TI TO i1 i2 l1 l2) (hn : min xs.size ys.size ≤ sizeLine) (hsz : n0 ≤ s.heap.objs.size) (hTI : TI < s.heap.objs.size)
    (hlt : ∀ q ∈ [z, TO, i1, i2], q < s.heap.objs.size) (hz0 : IsZip s.heap z TI TO .none) (hz : ZipL z TI TO i1 i2 l1 l2 0 s.heap) (hl1 : s.heap.IsList l1 xs) (hl2 : s.heap.IsList l2 ys)
    (hQ : ∀ h' Ts' c', (∀ b o, b ≠ z → b ≠ TO → b ≠ i1 → b ≠ i2 → s.heap.get? b = some o → h'.get? b = some o) → h'.get? s.heap.objs.size = some { cls := .type "list", dict := none, data := .seq (Ts'.map Value.ref).toArray c', slots := #[] } → Ts'.length = min xs.size ys.size → Got n0 xs ys h' Ts' → (∀ T ∈ Ts', T ≠ s.heap.objs.size) → Ts'.Nodup → Q (.ref s.heap.objs.size) { s with heap := h' }) :
    wpAny (model prog w) A (call (.type "list") [.ref z]) Q E s := by
  refine callType_codes (Q₁ := fun obj s₁ => obj = .ref s.heap.objs.size ∧ s₁ = { s with heap := s.heap.push { cls := .type "list", data := .seq #[] } }) F.called_list (F.typeCall_list_1 _) F.entry_list_init
    (code_list_new _ ⟨rfl, rfl⟩) fun obj s₁ h₁ => ?_
  obtain ⟨rfl, rfl⟩ := h₁
  have hS : (s.heap.push { cls := .type "list", data := .seq #[] }).get? s.heap.objs.size = some { cls := .type "list", data := .seq #[] } := Heap.get?_push_size _ rfl
  refine ⟨⟨_, hS, rfl⟩, F.args_list_init_2 _ _, ?_⟩
  show wpAny _ A.in1.in1 (do let old ← Builtin.List.listItems (.ref s.heap.objs.size); Builtin.List.listUpdate (.ref s.heap.objs.size) (fun _ => #[]); letGo old.toList.reverse; Builtin.List.listExtendWith (.ref s.heap.objs.size) (.ref z) .none) _ _ _
  refine wpAny_bind ?_
  unfold Builtin.List.listItems
  refine wpAny_bind (wpAny_seqItems hS rfl (wpAny_pure ?_))
  show wpAny _ A.in1.in1 (updateSeq s.heap.objs.size (fun _ => #[]) >>= fun _ => letGo (#[] : Array Value).toList.reverse >>= fun _ => Builtin.List.listExtendWith (.ref s.heap.objs.size) (.ref z) .none) _ _ _
  refine wpAny_bind (wpAny_updateSeq hS rfl ?_)
  have hS₂ := Heap.get?_update_self (Obj.mapSeq (fun _ => (#[] : Array Value))) hS rfl
  have oth : ∀ b o, s.heap.get? b = some o → ((s.heap.push { cls := .type "list", data := .seq #[] }).update s.heap.objs.size (Obj.mapSeq (fun _ => (#[] : Array Value)))).get? b = some o :=
    fun b o e => (Heap.get?_update_other _ _ (Nat.ne_of_gt (Heap.lt_size e))).trans (Heap.get?_push_of_some _ e)
  have hsz2 : ((s.heap.push { cls := .type "list", data := .seq #[] }).update s.heap.objs.size (Obj.mapSeq (fun _ => (#[] : Array Value)))).objs.size = s.heap.objs.size + 1 := by rw [Heap.size_update, Heap.size_push]
  refine wpAny_bind (wpAny_letGo ?_)
  have ne : ∀ q ∈ [z, TO, i1, i2], s.heap.objs.size ≠ q := fun q hq => Nat.ne_of_gt (hlt q hq)
  have ltl1 : l1 < s.heap.objs.size := by obtain ⟨_, e, _⟩ := hl1; exact Heap.lt_size e
  have ltl2 : l2 < s.heap.objs.size := by obtain ⟨_, e, _⟩ := hl2; exact Heap.lt_size e
  refine extend_zipL (n0 := n0) (xs := xs) (ys := ys) hh D ⟨ne _ (by simp), ne _ (by simp), ne _ (by simp), ne _ (by simp)⟩ ⟨Nat.ne_of_gt ltl1, Nat.ne_of_gt ltl2, Nat.ne_of_gt hTI⟩ hsz hn (by show n0 ≤ _; rw [hsz2]; omega) (fun q hq => ?_) (oth _ _ hz0) (hz.kept (fun b o e _ => oth b o e) fun T bb e => by have e2 := hz0.symm.trans e; simp [rawInt] at e2) ?_ ?_ hS₂ fun h' Ts' c' kp a1 a2 a3 a4 a5 => ⟨rfl, hQ h' Ts' c' (fun b o b1 b2 b3 b4 e => kp b o b1 b2 b3 b4 (Nat.ne_of_lt (Heap.lt_size e)) (oth b o e)) a1 a2 a3 a4 a5⟩
  · show q < _
    rw [hsz2]
    simp only [List.mem_cons, List.not_mem_nil, or_false] at hq
    rcases hq with rfl | rfl | rfl | rfl | rfl
    · exact Nat.lt_succ_of_lt (hlt _ (by simp))
    · exact Nat.lt_succ_of_lt (hlt _ (by simp))
    · exact Nat.lt_succ_of_lt (hlt _ (by simp))
    · exact Nat.lt_succ_of_lt (hlt _ (by simp))
    · exact Nat.lt_succ_self _
  · obtain ⟨o, e, r⟩ := hl1; exact ⟨o, oth _ _ e, r⟩
  · obtain ⟨o, e, r⟩ := hl2; exact ⟨o, oth _ _ e, r⟩
end

/-! ### over the layer -/
def rListZip (K : PySem.W.Frag) : List V → Hp → VK → Prop := fun vs H Q => ∃ a b xs ys, vs = [.ref a, .ref b] ∧ SqL K H a xs ∧ SqL K H b ys ∧
  ∀ l ts H2, Same H H2 → H l = none → H2 l = some (.lst (ts.map V.ref)) → Paired (fun t (p : V × V) => H t = none ∧ H2 t = some (.tup [p.1, p.2])) ts (xs.zip ys) → ts.Nodup → l ∉ ts → Q (.ref l) H2
section
variable {X : Cx} {K : PySem.W.Frag} {a b : Expr} {t : TA} {p p2 pos pos2 : Pos}
/-- many new tuples are tracked -/
theorem Inv.trackT {pins : List (Addr × Obj)} {σ : St} {s : Shared} {n0 : Nat} (hn0 : ∀ {H : Hp} {D : Addr}, n0 ≤ D → H D = none → Aside X pins H D) {Ts : List Addr} {ps : List (V × V)}
    (hP : Paired (fun T (p : V × V) => ∃ x y, RelV p.1 x ∧ RelV p.2 y ∧ IsPair s.heap T x y) Ts ps) : ∀ {H : Hp}, Inv X pins σ H s → (∀ T ∈ Ts, n0 ≤ T ∧ H T = none) → Ts.Nodup →
    ∃ H2, Inv X pins σ H2 s ∧ Same H H2 ∧ Paired (fun T (p : V × V) => H2 T = some (.tup [p.1, p.2])) Ts ps ∧ ∀ D, D ∉ Ts → H2 D = H D := by
  induction hP with
  | nil => exact fun {H} I _ _ => ⟨H, I, fun _ _ e => e, .nil, fun _ _ => rfl⟩
  | @cons T p Ts ps r hP ih =>
    intro H I hf hnd
    obtain ⟨x, y, r1, r2, hp⟩ := r
    obtain ⟨h1, h2⟩ := hf T List.mem_cons_self
    obtain ⟨n1, n2⟩ := List.nodup_cons.mp hnd
    have a := hn0 h1 h2
    have I1 : Inv X pins σ (upd H T (.tup [p.1, p.2])) s := I.track h2 a.ne a.ab a.cl a.pn ⟨szl (Nat.le_of_ble_eq_true rfl), [x, y], .cons r1 (.cons r2 .nil), ⟨_, hp, rfl, _, rfl⟩⟩
    obtain ⟨H2, I2, s2, P2, o2⟩ := ih I1 (fun T' hT' => ⟨(hf T' (List.mem_cons_of_mem _ hT')).1, by
      have ne : T' ≠ T := fun e => n1 (e ▸ hT')
      rw [upd_ne ne]
      exact (hf T' (List.mem_cons_of_mem _ hT')).2⟩) n2
    refine ⟨H2, I2, fun b o e => s2 b o (by rw [upd_ne (ne_of_none e h2)]; exact e), .cons (by rw [o2 T n1, upd_same]) P2, fun D hD => ?_⟩
    rw [o2 D fun z => hD (List.mem_cons_of_mem _ z), upd_ne fun z : D = T => hD (by rw [z]; exact List.mem_cons_self)]
theorem paired_of {α β : Type} {F : α → β → Prop} : ∀ {as : List α} {bs : List β}, as.length = bs.length → (∀ (k : Nat) a b, as[k]? = some a → bs[k]? = some b → F a b) → Paired F as bs
  | [], [], _, _ => .nil
  | a :: as, b :: bs, h, f => .cons (f 0 a b rfl rfl) (paired_of (by simpa using h) fun k a b h1 h2 => f (k + 1) a b (by simpa using h1) (by simpa using h2))
  | [], _ :: _, h, _ => by simp at h
  | _ :: _, [], h, _ => by simp at h
theorem pe_listZip (hK : X.K = K) (hc : X.calm = true) (hg : Gl X "list") (hm : X.mg "list" = none) (hg2 : Gl X "zip") (hm2 : X.mg "zip" = none) (ha : PA X [a, b] t)
    (hs : starEach [a, b] X.env = [(false, eval a X.env), (false, eval b X.env)] := by rfl) (hs2 : starEach [b] X.env = [(false, eval b X.env)] := by rfl)
    (hs3 : starEach [.Call (.Name "zip" p2) [a, b] [] pos2] X.env = [(false, eval (.Call (.Name "zip" p2) [a, b] [] pos2) X.env)] := by rfl) :
    PE X (.Call (.Name "list" p) [.Call (.Name "zip" p2) [a, b] [] pos2] [] pos) (tCB (rListZip K) t) := by
  subst hK
  intro pins s σ H Q I h
  refine wpAny_Call_Name_kw (ld_blt I hg hm bt_list ?_)
  refine PyProof.Rows.callWith_type1 (Q := EP X pins σ Q) ?_ (by rw [hs3]; rfl) (by rfl)
  rw [hs3]
  show wpAny _ _ (spliced [(false, eval (.Call (.Name "zip" p2) [a, b] [] pos2) X.env)]) _ _ _
  refine Calls.spliced_cons (Call_ (ld_blt I hg2 hm2 bt_zip (PyProof.Rows.callWith_type1 (thn (ha pos2 pins s σ H _ I h) fun us s1 ⟨vs, H1, I1, r1, q1⟩ => ?_) (by rw [hs, hs2]) (by rw [hs2]; rfl))))
  obtain ⟨x, y, xs, ys, e, hx, hy, q⟩ := q1
  subst e
  cases r1 with
  | cons r rr =>
    cases rr with
    | cons r' rr =>
      cases rr
      obtain ⟨its, rv, pl, hz⟩ := I1.list hx
      obtain ⟨jts, rw', ql, hz'⟩ := I1.list hy
      cases r
      cases r'
      have a1 : x < s1.heap.objs.size := by obtain ⟨_, e, _⟩ := pl.isList; exact Heap.lt_size e
      have a2 : y < s1.heap.objs.size := by obtain ⟨_, e, _⟩ := ql.isList; exact Heap.lt_size e
      refine call_zip_2 pl.isList ql.isList fun h' b1 b2 b3 b4 b5 b6 b7 => Calls.spliced_nil ?_
      have l1 := rv.length
      have l2 := rw'.length
      refine call_list_zipL (s := { s1 with heap := h' }) (n0 := s1.heap.objs.size) (xs := its.toArray) (ys := jts.toArray) (by exact I.ok.hd hc) (zipApart_new a1 a2) (by simp; omega) (by show _ ≤ h'.objs.size; omega) (by show _ < h'.objs.size; omega) (fun q hq => ?_) b1 ⟨.inl ⟨b1, _, _, b3⟩, b2, b4, b5⟩ (by obtain ⟨o, e, r⟩ := pl.isList; exact ⟨o, b7 _ _ e, r⟩) (by obtain ⟨o, e, r⟩ := ql.isList; exact ⟨o, b7 _ _ e, r⟩) fun h2 Ts c kp hS hTl hG hTS hnd => ?_
      · show q < h'.objs.size
        simp only [List.mem_cons, List.not_mem_nil, or_false] at hq
        rw [b6]
        rcases hq with rfl | rfl | rfl | rfl <;> first | exact Nat.add_lt_add_left (by decide) _ | exact Nat.lt_add_of_pos_right (by decide)
      · have hSize : ({ s1 with heap := h' } : Shared).heap.objs.size = s1.heap.objs.size + 5 := b6
        rw [hSize] at hS hTS ⊢
        have old : ∀ b o, s1.heap.get? b = some o → h2.get? b = some o := fun b o e => by
          have lt := Heap.lt_size e
          exact kp b o (Nat.ne_of_lt (Nat.lt_of_lt_of_le lt (Nat.le_add_right _ _))) (Nat.ne_of_lt (Nat.lt_of_lt_of_le lt (Nat.le_add_right _ _))) (Nat.ne_of_lt lt) (Nat.ne_of_lt (Nat.lt_of_lt_of_le lt (Nat.le_add_right _ _))) (b7 b o e)
        have I2 : Inv X pins σ H1 { s1 with heap := h2 } := I1.kept (t' := s1.toks) old
        have fresh : ∀ D, s1.heap.objs.size ≤ D → H1 D = none := fun D hD => I1.hok.fresh hD
        have hTl2 : Ts.length = (xs.zip ys).length := by
          rw [hTl, List.length_zip]
          simp
          omega
        have hPP : Paired (fun T (p : V × V) => ∃ x y, RelV p.1 x ∧ RelV p.2 y ∧ IsPair h2 T x y) Ts (xs.zip ys) := paired_of hTl2 fun k T pr h1 h3 => by
          obtain ⟨_, ux, uy, e1, e2, e3⟩ := hG k T h1
          rw [List.getElem?_zip_eq_some] at h3
          obtain ⟨h4, h5⟩ := h3
          obtain ⟨u1, f1, g1⟩ := rv.get h4
          obtain ⟨u2, f2, g2⟩ := rw'.get h5
          have z1 : ux = u1 := by
            have : its.toArray[k]? = some u1 := by simpa using f1
            rw [e1] at this
            exact Option.some.inj this
          have z2 : uy = u2 := by
            have : jts.toArray[k]? = some u2 := by simpa using f2
            rw [e2] at this
            exact Option.some.inj this
          subst z1 z2
          exact ⟨ux, uy, g1, g2, e3⟩
        have hTT : ∀ T ∈ Ts, s1.heap.objs.size ≤ T ∧ H1 T = none := fun T hT => by
          obtain ⟨k, hk⟩ := List.mem_iff_getElem?.mp hT
          obtain ⟨z, _⟩ := hG k T hk
          exact ⟨z, fresh T z⟩
        obtain ⟨H2, I3, s3, P3, o3⟩ := Inv.trackT (n0 := s1.heap.objs.size) (fun {H' D} hD hn => I1.aside hD hn) hPP I2 hTT hnd
        have hS0 : s1.heap.objs.size + 5 ∉ Ts := fun z => hTS _ z rfl
        have f5 : H1 (s1.heap.objs.size + 5) = none := fresh _ (by omega)
        have f6 : H2 (s1.heap.objs.size + 5) = none := by rw [o3 _ hS0]; exact f5
        have as := I1.aside (H' := H2) (show s1.heap.objs.size ≤ s1.heap.objs.size + 5 by omega) f6
        have vT : Vals (Ts.map V.ref) (Ts.map Value.ref) := paired_of (by simp) fun k a b h1 h2 => by
          rw [List.getElem?_map] at h1 h2
          obtain ⟨T, e1, rfl⟩ := Option.map_eq_some_iff.mp h1
          rw [e1] at h2
          cases h2
          exact rfl
        have lz : (Ts.map V.ref).length ≤ sizeLine := by
          rw [List.length_map, hTl]
          simp
          omega
        have I4 : Inv X pins σ (upd H2 (s1.heap.objs.size + 5) (.lst (Ts.map V.ref))) { s1 with heap := h2 } := I3.track f6 as.ne as.ab as.cl as.pn ⟨lz, Ts.map Value.ref, c, vT, hS⟩
        refine ⟨.ref (s1.heap.objs.size + 5), _, I4, rfl, q _ Ts _ (fun b o e => by rw [upd_ne (ne_of_none e f5)]; exact s3 b o e) f5 upd_same ?_ hnd hS0⟩
        refine paired_of hTl2 fun k T pr h1 h3 => ?_
        have hTm := List.mem_of_getElem? h1
        refine ⟨?_, ?_⟩
        · obtain ⟨z, _⟩ := hG k T h1
          exact fresh T z
        · have : T ≠ s1.heap.objs.size + 5 := hTS T hTm
          rw [upd_ne this]
          have go : ∀ {as : List Addr} {bs : List (V × V)} {k : Nat} {T : Addr} {pr : V × V}, Paired (fun T (p : V × V) => H2 T = some (.tup [p.1, p.2])) as bs → as[k]? = some T → bs[k]? = some pr → H2 T = some (.tup [pr.1, pr.2]) := by
            intro as bs k T pr P
            induction P generalizing k with
            | nil => intro z; simp at z
            | cons r _ ih =>
              cases k with
              | zero => intro z1 z2; simp at z1 z2; subst z1 z2; exact r
              | succ k => intro z1 z2; exact ih (k := k) (by simpa using z1) (by simpa using z2)
          exact go P3 h1 h3
end
end L2

set_option Elab.async false
set_option linter.all false
set_option maxRecDepth 100000
namespace L2
open PySem PySem.Spec PyProof.Rows
/-! ### list(range(n)) -/
def rListRng : List V → Hp → VK → Prop := fun xs H Q => ∃ n : Nat, xs = [.int n] ∧ n ≤ 100000 ∧ ∀ l, H l = none → Q (.ref l) (upd H l (.lst (iL ((List.range n).map fun i : Nat => (i : Int)))))
section
variable {X : Cx} {a : Expr} {t : TA} {p p2 pos pos2 : Pos}
theorem pe_listRng (hc : X.calm = true) (hg : Gl X "list") (hm : X.mg "list" = none) (hg2 : Gl X "range") (hm2 : X.mg "range" = none) (ha : PA X [a] t)
    (hs : starEach [a] X.env = [(false, eval a X.env)] := by rfl)
    (hs3 : starEach [.Call (.Name "range" p2) [a] [] pos2] X.env = [(false, eval (.Call (.Name "range" p2) [a] [] pos2) X.env)] := by rfl) :
    PE X (.Call (.Name "list" p) [.Call (.Name "range" p2) [a] [] pos2] [] pos) (tCB rListRng t) := by
  intro pins s σ H Q I h
  refine wpAny_Call_Name_kw (ld_blt I hg hm bt_list ?_)
  refine PyProof.Rows.callWith_type1 (Q := EP X pins σ Q) ?_ (by rw [hs3]; rfl) (by rfl)
  rw [hs3]
  show wpAny _ _ (spliced [(false, eval (.Call (.Name "range" p2) [a] [] pos2) X.env)]) _ _ _
  refine Calls.spliced_cons (Call_ (ld_blt I hg2 hm2 boot_range (PyProof.Rows.callWith_type1 (thn (ha pos2 pins s σ H _ I h) fun us s1 ⟨vs, H1, I1, r1, q1⟩ => ?_) hs rfl)))
  obtain ⟨n, e, hn, q⟩ := q1
  subst e
  cases r1 with
  | cons r rr =>
    cases rr
    obtain ⟨tk, rfl⟩ := r
    refine call_range_1 (Calls.spliced_nil ?_)
    have hsz : Builtin.Range.rangeSize 0 (n : Int) 1 = (n : Int) := by
      unfold Builtin.Range.rangeSize
      rw [if_pos (by decide)]
      by_cases z : (0 : Int) < n
      · rw [if_pos z, Int.ediv_one]; omega
      · rw [if_neg z]; omega
    refine call_list_range (n := n) (I.ok.hd hc) (Heap.get?_push_size _ rfl) ?_ hsz (by omega) fun h' tk' acc c' kp hS hI => ?_
    · unfold Builtin.Range.small
      rw [hsz]
      have f : ∀ k : Int, 0 ≤ k → k ≤ 100000 → Builtin.Range.rangeFitsLong k = true := fun k h0 h1 => by
        unfold Builtin.Range.rangeFitsLong
        simp
        omega
      rw [f 0 (by omega) (by omega), f n (by omega) (by omega), f 1 (by omega) (by omega), if_pos (by decide), f ((n : Int) + (1 - 1)) (by omega) (by omega)]
      simp
    · have hsz2 : (s1.heap.push { cls := .type "range", data := .fields #[.int 0 s1.toks, .int (n : Int) tk, .int 1 (s1.toks + 1)] }).objs.size = s1.heap.objs.size + 1 := by simp [Heap.push]
      have hS' : h'.get? (s1.heap.objs.size + 1) = some { cls := .type "list", data := .seq acc c' } := by rw [← hsz2]; exact hS
      have hn1 : H1 (s1.heap.objs.size + 1) = none := I1.hok.fresh (Nat.le_succ _)
      have I2 := I1.kept (t' := tk') (h' := h') (fun b o z => kp b o (Heap.get?_push_of_some _ z))
      have as := I1.aside (Nat.le_succ s1.heap.objs.size) hn1
      obtain ⟨hI1, hI2⟩ := hI
      have hv : Vals (iL ((List.range n).map fun i : Nat => (i : Int))) acc.toList := paired_of (by simp [iL, hI1]) fun k a b e1 e2 => by
        rw [List.getElem?_map, List.getElem?_map] at e1
        obtain ⟨z, e3, rfl⟩ := Option.map_eq_some_iff.mp e1
        obtain ⟨z', e4, rfl⟩ := Option.map_eq_some_iff.mp e3
        obtain ⟨k1, k2⟩ := List.getElem?_eq_some_iff.mp e4
        rw [List.getElem_range] at k2
        subst k2
        obtain ⟨t2, rfl⟩ := hI2 k b (by rw [← Array.getElem?_toList]; exact e2)
        exact ⟨t2, by simp⟩
      have hz : (iL ((List.range n).map fun i : Nat => (i : Int))).length ≤ sizeLine := by
        have := sizeLine_eq
        simp [iL]
        omega
      rw [hsz2]
      exact ⟨.ref (s1.heap.objs.size + 1), upd H1 (s1.heap.objs.size + 1) (.lst (iL ((List.range n).map fun i : Nat => (i : Int)))), I2.track hn1 as.ne as.ab as.cl as.pn ⟨hz, acc.toList, c', hv, by simpa using hS'⟩, rfl, q _ hn1⟩
end
end L2

set_option Elab.async false
set_option linter.all false
namespace M
/-! ### turning places -/
def mvFrom : Int → List Int → List Int
  | _, [] => []
  | l, x :: r => if x = l then mvFrom l r else x :: mvFrom x r
def moves : List Int → List Int
  | [] => []
  | x :: r => x :: mvFrom x r
def tn : Int → Int → List Int → List Int
  | _, b, [] => [b]
  | a, b, c :: r => if decide (a < b) = decide (c < b) then b :: tn b c r else tn b c r
def tl (h : Int) : List Int → List Int
  | [] => []
  | c :: m => tn h c m
def turn : List Int → List Int
  | [] => []
  | a :: m => a :: tl a m
/-- unlike each to the next -/
def ch : Int → List Int → Prop
  | _, [] => True
  | a, b :: r => b ≠ a ∧ ch b r
/-- up: z lies above the one ahead of it; the rest by turns -/
def alts : Bool → Int → List Int → Prop
  | _, _, [] => True
  | true, z, y :: r => y < z ∧ alts false y r
  | false, z, y :: r => z < y ∧ alts true y r
/-- places doubled -/
def rep (n : Nat) : List Int → List Int
  | [] => []
  | x :: r => List.replicate n x ++ rep n r
/-! ### going by the turning places -/
/-- h: the last turning reached; p: where the row is; rest: the turnings ahead; m: the moves ahead -/
def GoSt (h p : Int) (rest m : List Int) : Prop := (p = h ∧ rest = tl h m) ∨ (p ≠ h ∧ rest = tn h p m ∧ ∀ t rs, rest = t :: rs → t ≠ p)
def altL : List Int → Prop
  | a :: b :: r => b ≠ a ∧ alts (decide (a < b)) b r
  | _ => True
end M

set_option Elab.async false
set_option linter.all false
namespace M
/-! ### standing places: a row and its standing places do the same to whatever is dragged -/
def btw (a c p : Int) : Prop := (a ≤ p ∧ p ≤ c) ∨ (c ≤ p ∧ p ≤ a)
def fo {σ : Type} (f : Int → σ → σ) (x : σ) (L : List Int) : σ := L.foldl (fun y p => f p y) x
/-- what lies between two places that are both gone to leaves nothing -/
structure Sys {σ : Type} (f : Int → σ → σ) : Prop where
  idem : ∀ p x, f p (f p x) = f p x
  wipe : ∀ (a c : Int) (L0 L1 : List Int) (x : σ), (∀ p ∈ L0, btw a c p) → (∀ p ∈ L1, btw a c p) → fo f x (L0 ++ a :: (L1 ++ [c])) = f c (f a x)
def StdOf (row S : List Int) : Prop := ∀ (σ : Type) (f : Int → σ → σ), Sys f → ∀ x, fo f x row = fo f x S
/-- t is the last time of c -/
def LastT (row : List Int) (c : Int) (t : Nat) : Prop := row[t]? = some c ∧ ∀ k, t < k → row[k]? ≠ some c
/-- how far the standing places have been told -/
structure Told (row S : List Int) (c : Int) (t : Nat) (b : Bool) : Prop where
  lt : LastT row c t
  en : ∃ ini, S = ini ++ [c]
  sub : ∀ p ∈ S, p ∈ row
  len : S.length ≤ t + 1
  side : ∀ p ∈ row.drop (t + 1), if b then p < c else c < p
  fold : ∀ (σ : Type) (f : Int → σ → σ), Sys f → ∀ x, fo f x (row.take (t + 1)) = fo f x S
/-- a slow switch -/
def swf (lo hi : Int) (c : Int) (b : Bool) : Bool := if hi ≤ c then true else if c ≤ lo then false else b
end M

set_option Elab.async false
set_option linter.all false
namespace M
/-! ### the standing places are one list; another row with the same ones -/
/-- how standing places are told, one by one -/
inductive Gen (row : List Int) : List Int → Int → Nat → Bool → Prop
  | up {m M : Int} {tm tM : Nat} : LastT row m tm → LastT row M tM → (∀ p ∈ row, m ≤ p ∧ p ≤ M) → m ≠ M → tm < tM → Gen row [m, M] M tM true
  | down {m M : Int} {tm tM : Nat} : LastT row m tm → LastT row M tM → (∀ p ∈ row, m ≤ p ∧ p ≤ M) → m ≠ M → ¬ tm < tM → Gen row [M, m] m tm false
  | next {S : List Int} {c d : Int} {t u : Nat} {b : Bool} : Gen row S c t b → d ∈ row.drop (t + 1) → LastT row d u → (∀ p ∈ row.drop (t + 1), if b then d ≤ p else p ≤ d) → Gen row (S ++ [d]) d u (!b)
/-- each next one strictly within the two ahead of it -/
def Nest : List Int → Prop
  | a :: c :: r => a ≠ c ∧ (match r with | [] => True | d :: _ => (a < c → a < d ∧ d < c) ∧ (c < a → c < d ∧ d < a)) ∧ Nest (c :: r)
  | _ => True
def sbtw (a c p : Int) : Prop := (a < p ∧ p < c) ∨ (c < p ∧ p < a)
/-- a row that is led by standing places -/
structure Other (O S : List Int) : Prop where
  rng : ∀ a c, S[0]? = some a → S[1]? = some c → ∀ p ∈ O, btw a c p
  mark : ∀ j c, S[j]? = some c → ∃ P R, O = P ++ c :: R ∧ (∀ d, S[j + 1]? = some d → d ∈ R ∧ ∀ p ∈ R, btw c d p) ∧ (S[j + 1]? = none → R = [])
/-! ### wheels -/
def cl (l u y : Int) : Int := if y < l then l else if u < y then u else y
/-! ### growing a row that is led by standing places -/
structure Grow (O S : List Int) (n : Nat) : Prop where
  rng : ∀ a c, S[0]? = some a → S[1]? = some c → ∀ p ∈ O, btw a c p
  mark : ∀ j c, j < n → S[j]? = some c → ∃ P R, O = P ++ c :: R ∧ (∀ d, S[j + 1]? = some d → (j + 1 < n → d ∈ R) ∧ ∀ p ∈ R, btw c d p) ∧ (j + 1 = n → R = [])
end M

set_option Elab.async false
set_option linter.all false
namespace M
/-! ### standing places as a function; two lists of standing places that all switches take alike are one -/
/-- all switches take both alike -/
def Agree (r1 r2 : List Int) : Prop := ∀ lo hi, lo < hi → ∀ x, fo (swf lo hi) x r1 = fo (swf lo hi) x r2
/-! ### standing places -/
def Stands (row S : List Int) : Prop := (S = turn (moves row) ∧ S.length < 2) ∨ ∃ c t b, Gen row S c t b ∧ row.length ≤ t + 1
end M

set_option Elab.async false
set_option linter.all false
set_option maxHeartbeats 2000000
namespace M
/-! ### how far a wheel goes along a row; swings taken out -/
def gw (d a : Int) (row : List Int) : Int := way a (hung d a row)
/-! ### by turns -/
/-- what swings come to at a depth -/
def sws (d : Int) (ps : List (Int × Int)) : Int := (ps.map fun p => max 0 (p.2 - p.1 - 2 * d)).sum
/-- swings and what is left: as far as a wheel of any depth goes -/
def SwOk (row : List Int) (ps : List (Int × Int)) (lf : List Int) : Prop := ∀ d a, 0 ≤ d → gw d a row = gw d a lf + 2 * sws d ps
end M

set_option Elab.async false
set_option linter.all false
namespace M
/-! ### all moved by one number, or turned over -/
theorem way_sh (b : Int) : ∀ (r : List Int) (h : Int), way (h + b) (r.map (· + b)) = way h r
  | [], _ => rfl
  | x :: r, h => by
    simp only [List.map_cons, way]
    rw [way_sh b r x, show x + b - (h + b) = x - h by omega]
theorem ab_neg (x : Int) : ab (-x) = ab x := by unfold ab; split <;> split <;> omega
theorem way_ov : ∀ (r : List Int) (h : Int), way (0 - h) (r.map (0 - ·)) = way h r
  | [], _ => rfl
  | x :: r, h => by
    simp only [List.map_cons, way]
    rw [way_ov r x, show 0 - x - (0 - h) = -(x - h) by omega, ab_neg]
/-! papers -/
section
variable {n : Nat} {D F G F' G' : Fn} {b : Int}
theorem fm_sh (h : ∀ j : Int, -1 ≤ j → j < n → F' j = F j + b ∧ G' j = G j + b) : ∀ k : Nat, k ≤ n → (0 < n) → fm F' G' k = fm F G k
  | 0, _, h0 => by
    have := h (-1) (by omega) (by omega)
    unfold fm sgn
    rw [this.1, this.2]
    by_cases e : F (-1) = G (-1)
    · rw [if_pos (by omega), if_pos e]
    · rw [if_neg (by omega), if_neg e]
      by_cases l : F (-1) < G (-1)
      · rw [if_pos (by omega), if_pos l]
      · rw [if_neg (by omega), if_neg l]
  | k + 1, hk, h0 => by
    have := h k (by omega) (by omega)
    unfold fm sgn
    rw [this.1, this.2]
    by_cases e : F k = G k
    · rw [if_pos (by omega), if_pos e]; exact fm_sh h k (by omega) h0
    · rw [if_neg (by omega), if_neg e]
      by_cases l : F k < G k
      · rw [if_pos (by omega), if_pos l]
      · rw [if_neg (by omega), if_neg l]
theorem bey_sh (h : ∀ j : Int, -1 ≤ j → j < n → G' j = G j + b) {a : Must} {w : Int} (ha : -1 ≤ a.1 ∧ a.1 < n) (hw : -1 ≤ w ∧ w < n) : bey D G' a w ↔ bey D G a w := by
  unfold bey mp
  rw [h _ ha.1 ha.2, h _ hw.1 hw.2, show G a.1 + b + a.2 * D a.1 - (G w + b) = G a.1 + a.2 * D a.1 - G w by omega]
theorem rst_sh (h : ∀ j : Int, -1 ≤ j → j < n → G' j = G j + b) : ∀ (k : Nat) (a : Must), -1 ≤ a.1 ∧ a.1 < n → k ≤ n → 0 < n → rst D G' k a = rst D G k a
  | 0, a, ha, _, h0 => by
    unfold rst
    by_cases e : bey D G a (-1)
    · rw [if_pos ((bey_sh h ha ⟨by omega, by omega⟩).mpr e), if_pos e]
    · rw [if_neg fun z => e ((bey_sh h ha ⟨by omega, by omega⟩).mp z), if_neg e]
  | k + 1, a, ha, hk, h0 => by
    unfold rst
    by_cases e : bey D G a k
    · rw [if_pos ((bey_sh h ha ⟨by omega, by omega⟩).mpr e), if_pos e, rst_sh h k _ ⟨by simp only; omega, by simp only; omega⟩ (by omega) h0]
    · rw [if_neg fun z => e ((bey_sh h ha ⟨by omega, by omega⟩).mp z), if_neg e, rst_sh h k a ha (by omega) h0]
theorem paper_sh (h0 : 0 < n) (h : ∀ j : Int, -1 ≤ j → j < n → F' j = F j + b ∧ G' j = G j + b) : paper n D F' G' = paper n D F G := by
  unfold paper
  rw [fm_sh h n (Nat.le_refl _) h0]
  rcases fm_spec (F := F) (G := G) n with ⟨e, _⟩ | ⟨w, e, hw1, hw2, _⟩
  · rw [e]
  · rw [e]
    simp only
    unfold rstOf
    split
    · rfl
    · rw [rst_sh (fun j h1 h2 => (h j h1 h2).2) _ _ ⟨hw1, hw2⟩ (by first | omega | (simp only; omega)) h0]
def flip (m : Must) : Must := (m.1, 0 - m.2)
theorem fm_ov (h : ∀ j : Int, -1 ≤ j → j < n → F' j = 0 - F j ∧ G' j = 0 - G j) : ∀ k : Nat, k ≤ n → (0 < n) → fm F' G' k = (fm F G k).map flip
  | 0, _, h0 => by
    have := h (-1) (by omega) (by omega)
    unfold fm sgn
    rw [this.1, this.2]
    by_cases e : F (-1) = G (-1)
    · rw [if_pos (by omega), if_pos e]; rfl
    · rw [if_neg (by omega), if_neg e]
      by_cases l : F (-1) < G (-1)
      · rw [if_neg (by omega), if_pos l]; rfl
      · rw [if_pos (by omega), if_neg l]; rfl
  | k + 1, hk, h0 => by
    have := h k (by omega) (by omega)
    unfold fm sgn
    rw [this.1, this.2]
    by_cases e : F k = G k
    · rw [if_pos (by omega), if_pos e]; exact fm_ov h k (by omega) h0
    · rw [if_neg (by omega), if_neg e]
      by_cases l : F k < G k
      · rw [if_neg (by omega), if_pos l]; rfl
      · rw [if_pos (by omega), if_neg l]; rfl
theorem mp_ov (h : ∀ j : Int, -1 ≤ j → j < n → G' j = 0 - G j) {a : Must} (ha : -1 ≤ a.1 ∧ a.1 < n) : mp D G' (flip a) = 0 - mp D G a := by
  unfold mp flip
  simp only
  rw [h _ ha.1 ha.2, Int.sub_mul]
  omega
theorem bey_ov (h : ∀ j : Int, -1 ≤ j → j < n → G' j = 0 - G j) {a : Must} {w : Int} (ha : -1 ≤ a.1 ∧ a.1 < n) (hw : -1 ≤ w ∧ w < n) : bey D G' (flip a) w ↔ bey D G a w := by
  unfold bey
  rw [mp_ov h ha, h _ hw.1 hw.2]
  have : (0 - mp D G a - (0 - G w)) * (flip a).2 = (mp D G a - G w) * a.2 := by
    unfold flip
    simp only
    rw [show 0 - mp D G a - (0 - G w) = -(mp D G a - G w) by omega, show (0 : Int) - a.2 = -a.2 by omega, Int.neg_mul_neg]
  rw [this]
theorem rst_ov (h : ∀ j : Int, -1 ≤ j → j < n → G' j = 0 - G j) : ∀ (k : Nat) (a : Must), -1 ≤ a.1 ∧ a.1 < n → k ≤ n → 0 < n → rst D G' k (flip a) = (rst D G k a).map flip
  | 0, a, ha, _, h0 => by
    unfold rst
    by_cases e : bey D G a (-1)
    · rw [if_pos ((bey_ov h ha ⟨by omega, by omega⟩).mpr e), if_pos e]
      simp [flip]
    · rw [if_neg fun z => e ((bey_ov h ha ⟨by omega, by omega⟩).mp z), if_neg e]; rfl
  | k + 1, a, ha, hk, h0 => by
    unfold rst
    have eq : ((k : Int), -(flip a).2) = flip ((k : Int), -a.2) := by simp [flip]
    by_cases e : bey D G a k
    · rw [if_pos ((bey_ov h ha ⟨by omega, by omega⟩).mpr e), if_pos e, eq, rst_ov h k _ ⟨by simp only; omega, by simp only; omega⟩ (by omega) h0]; rfl
    · rw [if_neg fun z => e ((bey_ov h ha ⟨by omega, by omega⟩).mp z), if_neg e, rst_ov h k a ha (by omega) h0]
theorem paper_ov (h0 : 0 < n) (h : ∀ j : Int, -1 ≤ j → j < n → F' j = 0 - F j ∧ G' j = 0 - G j) : paper n D F' G' = (paper n D F G).map flip := by
  unfold paper
  rw [fm_ov h n (Nat.le_refl _) h0]
  rcases fm_spec (F := F) (G := G) n with ⟨e, _⟩ | ⟨w, e, hw1, hw2, _⟩
  · rw [e]; rfl
  · rw [e]
    simp only [List.map_cons, List.map_nil]
    unfold rstOf
    rw [show (flip (w, sgn F G w)).1 = w from rfl]
    split
    · rfl
    · rw [rst_ov (fun j h1 h2 => (h j h1 h2).2) _ _ ⟨hw1, hw2⟩ (by first | omega | (simp only; omega)) h0]
theorem chain_in : ∀ {ms : List Must} {a : Must}, chain n D G a ms → ∀ m ∈ ms, -1 ≤ m.1 ∧ m.1 < n
  | [], _, _, m, hm => by simp at hm
  | x :: ms, a, h, m, hm => by
    rcases List.mem_cons.mp hm with e | e
    · subst e; exact ⟨h.1.1, h.1.2.1⟩
    · exact chain_in h.2.2 m e
theorem paper_in : ∀ m ∈ paper n D F G, -1 ≤ m.1 ∧ m.1 < n := by
  have h := paper_isPap (n := n) (D := D) (F := F) (G := G)
  intro m hm
  revert h hm
  cases paper n D F G with
  | nil => intro h hm; simp at hm
  | cons a ms =>
    intro h hm
    rcases List.mem_cons.mp hm with e | e
    · subst e; exact ⟨h.1.1, h.1.2.1⟩
    · exact chain_in h.2.2 m e
end
theorem pc_sh {xs : List Int} {h b : Int} {j : Int} (h1 : -1 ≤ j) (h2 : j < xs.length) : pc (xs.map (· + b)) (h + b) j = pc xs h j + b := by
  unfold pc
  split
  · rfl
  · rw [List.getD_eq_getElem?_getD, List.getD_eq_getElem?_getD, List.getElem?_map, List.getElem?_eq_getElem (by omega)]
    rfl
theorem pc_ov {xs : List Int} {h : Int} {j : Int} (h1 : -1 ≤ j) (h2 : j < xs.length) : pc (xs.map (0 - ·)) (0 - h) j = 0 - pc xs h j := by
  unfold pc
  split
  · rfl
  · rw [List.getD_eq_getElem?_getD, List.getD_eq_getElem?_getD, List.getElem?_map, List.getElem?_eq_getElem (by omega)]
    rfl
section
variable {ps ws gs : List Int} {h e : Int}
theorem told_sh (b : Int) (h0 : 0 < ps.length) (h1 : ws.length = ps.length) (h2 : gs.length = ps.length) : told ps (h + b) (ws.map (· + b)) (e + b) (gs.map (· + b)) = told ps h ws e gs :=
  paper_sh (b := b) h0 fun j j1 j2 => ⟨pc_sh j1 (by omega), pc_sh j1 (by omega)⟩
theorem told_ov (h0 : 0 < ps.length) (h1 : ws.length = ps.length) (h2 : gs.length = ps.length) : told ps (0 - h) (ws.map (0 - ·)) (0 - e) (gs.map (0 - ·)) = (told ps h ws e gs).map flip :=
  paper_ov h0 fun j j1 j2 => ⟨pc_ov j1 (by omega), pc_ov j1 (by omega)⟩
theorem toldRow_sh (b : Int) (h0 : 0 < ps.length) (h1 : ws.length = ps.length) (h2 : gs.length = ps.length) : toldRow ps (h + b) (ws.map (· + b)) (e + b) (gs.map (· + b)) = (toldRow ps h ws e gs).map (· + b) := by
  unfold toldRow
  rw [told_sh b h0 h1 h2, List.map_map]
  refine List.map_congr_left fun m hm => ?_
  have := paper_in m hm
  simp only [Function.comp, mp]
  rw [pc_sh this.1 (by omega)]
  omega
theorem toldRow_ov (h0 : 0 < ps.length) (h1 : ws.length = ps.length) (h2 : gs.length = ps.length) : toldRow ps (0 - h) (ws.map (0 - ·)) (0 - e) (gs.map (0 - ·)) = (toldRow ps h ws e gs).map (0 - ·) := by
  unfold toldRow
  rw [told_ov h0 h1 h2, List.map_map, List.map_map]
  refine List.map_congr_left fun m hm => ?_
  have := paper_in m hm
  simp only [Function.comp]
  exact mp_ov (fun j j1 j2 => pc_ov j1 (by omega)) this
end
/-! swings, by the pile -/
def isSw4 : List Int → Bool
  | [a, b, c, d] => decide (ab (c - b) ≤ ab (b - a)) && decide (ab (c - b) ≤ ab (d - c))
  | _ => false
def hasS (pile : List Int) : Bool := isSw4 (pile.drop (pile.length - 4))
def delS (pile : List Int) : List Int := pile.take (pile.length - 3) ++ pile.drop (pile.length - 1)
def prS (pile : List Int) : Int × Int := (min (pile.getD (pile.length - 3) 0) (pile.getD (pile.length - 2) 0), max (pile.getD (pile.length - 3) 0) (pile.getD (pile.length - 2) 0))
def swW : Nat → List Int → List (Int × Int) → List Int × List (Int × Int)
  | 0, pile, prs => (pile, prs)
  | n + 1, pile, prs => if hasS pile = true then swW n (delS pile) (prs ++ [prS pile]) else (pile, prs)
def swF : List Int → List Int → List (Int × Int) → List Int × List (Int × Int)
  | [], pile, prs => (pile, prs)
  | x :: r, pile, prs => swF r (swW (pile.length + 1) (pile ++ [x]) prs).1 (swW (pile.length + 1) (pile ++ [x]) prs).2
end M

set_option Elab.async false
set_option linter.all false
set_option maxRecDepth 100000
set_option maxHeartbeats 4000000
namespace My
open PySem L2 M
local macro_rules | `(tactic| walk_at "s1") => `(tactic| first
  | with_reducible refine i_var rfl ?_
  | with_reducible refine i_I0 ?_
  | with_reducible refine iteF ?_
  | with_reducible refine iteNT ?_
  | with_reducible refine iteNF ?_
  | with_reducible refine iteT ?_
  | with_reducible refine i_truB ?_
  | with_reducible refine i_addI ?_
  | with_reducible refine i_U ?_
  | with_reducible refine i_isB ?_
  | with_reducible refine i_isNotB ?_
  | with_reducible refine i_eqI ?_
  | with_reducible refine i_neI ?_
  | with_reducible refine i_intB ?_
  | with_reducible refine i_abs ?_
  | with_reducible refine i_isiII ?_
  | with_reducible refine i_isiIB ?_
  | with_reducible refine i_isiIL ?_
  | with_reducible refine i_isiID ?_
  | with_reducible refine i_isiIT ?_
  | with_reducible refine i_isiBB ?_
  | with_reducible refine i_div (by omega) (by omega) ?_
  | with_reducible refine i_mod (by omega) ?_
  | with_reducible refine And.intro (szl (Nat.le_of_ble_eq_true rfl)) ?_
  | with_reducible refine ⟨_, rfl, ?_⟩)
local macro_rules | `(tactic| walk_at "un") => `(tactic| try dsimp only [tSeq, tAsg, gName, tOp, tUn, tTest, tB, tAnd, tOr, tNot, tAndV, tOrV, tNotV, tIf, tIfS, tRet, tRetN, tDrop, tNext, tCons, tNil, tCB, tCall, tMenu, tComp, tComp2, msk, List.zipWith, iZip2, iEnum, tNoIf, tTru, tJoin, cxOf_K, tLst, tTup, tSl, tPart, tNoPart, tBM, tBM0, tChain, tC, tFor_eq, gTup, gCons, gNil, gSub, iList, iRng1, iRng2, iRng3, iTup, iZip3, tWhile, tRev, tFld, sFld, tMeth, tMethS, tMake, tAug, tPar, tNever, ipI, List.append_nil])
local macro_rules | `(tactic| walk_at "st") => `(tactic| (walk_at "un"; repeat walk_at "s1"))

abbrev BdOk (a b : String) (st : Stmt) (ps : List Str) : Prop := ∀ (kV doc pm : Value) (an : Option Addr) (cdv ct : Value) (us : List Value) (hl : us.length = ps.length), bindArgs (PySem.W.fnOf a b (defArgs st) (defBody st) (defScope st) .none kV doc pm an cdv ct) ⟨us, []⟩ = pure (ps.zip us)
theorem len1 {us : List Value} (h : us.length = 1) : ∃ a0 : Value, us = [a0] := by
  rcases us with _ | ⟨a0, us⟩ <;> simp at h
  subst h
  exact ⟨a0, rfl⟩
theorem len2 {us : List Value} (h : us.length = 2) : ∃ a0 a1 : Value, us = [a0, a1] := by
  rcases us with _ | ⟨a0, us⟩ <;> simp at h
  rcases us with _ | ⟨a1, us⟩ <;> simp at h
  subst h
  exact ⟨a0, a1, rfl⟩
theorem len3 {us : List Value} (h : us.length = 3) : ∃ a0 a1 a2 : Value, us = [a0, a1, a2] := by
  rcases us with _ | ⟨a0, us⟩ <;> simp at h
  rcases us with _ | ⟨a1, us⟩ <;> simp at h
  rcases us with _ | ⟨a2, us⟩ <;> simp at h
  subst h
  exact ⟨a0, a1, a2, rfl⟩
theorem len4 {us : List Value} (h : us.length = 4) : ∃ a0 a1 a2 a3 : Value, us = [a0, a1, a2, a3] := by
  rcases us with _ | ⟨a0, us⟩ <;> simp at h
  rcases us with _ | ⟨a1, us⟩ <;> simp at h
  rcases us with _ | ⟨a2, us⟩ <;> simp at h
  rcases us with _ | ⟨a3, us⟩ <;> simp at h
  subst h
  exact ⟨a0, a1, a2, a3, rfl⟩
theorem len5 {us : List Value} (h : us.length = 5) : ∃ a0 a1 a2 a3 a4 : Value, us = [a0, a1, a2, a3, a4] := by
  rcases us with _ | ⟨a0, us⟩ <;> simp at h
  rcases us with _ | ⟨a1, us⟩ <;> simp at h
  rcases us with _ | ⟨a2, us⟩ <;> simp at h
  rcases us with _ | ⟨a3, us⟩ <;> simp at h
  rcases us with _ | ⟨a4, us⟩ <;> simp at h
  subst h
  exact ⟨a0, a1, a2, a3, a4, rfl⟩
def top (i : Nat) : Stmt := PySem.Challenge.pw_lugtrain_k42_whole_rounds_gone.main.body.getD i (.Pass ⟨0, 0, 0, 0⟩)
abbrev s_is_train : Stmt := top 7
theorem sc_is_train : FnScope ["plays"] ["plays"] (defScope s_is_train) := ⟨rfl, rfl, rfl, by decide +kernel, rfl, by decide +kernel, by decide +kernel⟩
theorem bd_is_train : BdOk "is_train" "is_train" s_is_train ["plays"] := fun _ _ _ _ _ _ us hl => by obtain ⟨a0, rfl⟩ := len1 hl; rfl
abbrev s_refuse_no_train : Stmt := top 8
theorem sc_refuse_no_train : FnScope ["plays"] ["plays"] (defScope s_refuse_no_train) := ⟨rfl, rfl, rfl, by decide +kernel, rfl, by decide +kernel, by decide +kernel⟩
theorem bd_refuse_no_train : BdOk "refuse_no_train" "refuse_no_train" s_refuse_no_train ["plays"] := fun _ _ _ _ _ _ us hl => by obtain ⟨a0, rfl⟩ := len1 hl; rfl
abbrev s_keeps_plays : Stmt := top 9
theorem sc_keeps_plays : FnScope ["plays", "handle", "wheels", "ahead", "play", "at"] ["plays", "handle", "wheels"] (defScope s_keeps_plays) := ⟨rfl, rfl, rfl, by decide +kernel, rfl, by decide +kernel, by decide +kernel⟩
theorem bd_keeps_plays : BdOk "keeps_plays" "keeps_plays" s_keeps_plays ["plays", "handle", "wheels"] := fun _ _ _ _ _ _ us hl => by obtain ⟨a0, a1, a2, rfl⟩ := len3 hl; rfl
abbrev s_is_stand : Stmt := top 10
theorem sc_is_stand : FnScope ["plays", "handle", "wheels"] ["plays", "handle", "wheels"] (defScope s_is_stand) := ⟨rfl, rfl, rfl, by decide +kernel, rfl, by decide +kernel, by decide +kernel⟩
theorem bd_is_stand : BdOk "is_stand" "is_stand" s_is_stand ["plays", "handle", "wheels"] := fun _ _ _ _ _ _ us hl => by obtain ⟨a0, a1, a2, rfl⟩ := len3 hl; rfl
abbrev s_refuse_no_stand : Stmt := top 11
theorem sc_refuse_no_stand : FnScope ["plays", "handle", "wheels"] ["plays", "handle", "wheels"] (defScope s_refuse_no_stand) := ⟨rfl, rfl, rfl, by decide +kernel, rfl, by decide +kernel, by decide +kernel⟩
theorem bd_refuse_no_stand : BdOk "refuse_no_stand" "refuse_no_stand" s_refuse_no_stand ["plays", "handle", "wheels"] := fun _ _ _ _ _ _ us hl => by obtain ⟨a0, a1, a2, rfl⟩ := len3 hl; rfl
abbrev s_dragged : Stmt := top 12
theorem sc_dragged : FnScope ["play", "ahead", "at"] ["play", "ahead", "at"] (defScope s_dragged) := ⟨rfl, rfl, rfl, by decide +kernel, rfl, by decide +kernel, by decide +kernel⟩
theorem bd_dragged : BdOk "dragged" "dragged" s_dragged ["play", "ahead", "at"] := fun _ _ _ _ _ _ us hl => by obtain ⟨a0, a1, a2, rfl⟩ := len3 hl; rfl
abbrev s_all_dragged : Stmt := top 13
theorem sc_all_dragged : FnScope ["plays", "wheels", "place", "places", "ahead", "play", "at"] ["plays", "wheels", "place"] (defScope s_all_dragged) := ⟨rfl, rfl, rfl, by decide +kernel, rfl, by decide +kernel, by decide +kernel⟩
theorem bd_all_dragged : BdOk "all_dragged" "all_dragged" s_all_dragged ["plays", "wheels", "place"] := fun _ _ _ _ _ _ us hl => by obtain ⟨a0, a1, a2, rfl⟩ := len3 hl; rfl
abbrev s_depths_of : Stmt := top 15
theorem sc_depths_of : FnScope ["plays", "depths", "depth", "play"] ["plays"] (defScope s_depths_of) := ⟨rfl, rfl, rfl, by decide +kernel, rfl, by decide +kernel, by decide +kernel⟩
theorem bd_depths_of : BdOk "depths_of" "depths_of" s_depths_of ["plays"] := fun _ _ _ _ _ _ us hl => by obtain ⟨a0, rfl⟩ := len1 hl; rfl
abbrev s_way_of : Stmt := top 16
theorem sc_way_of : FnScope ["places"] ["places"] (defScope s_way_of) := ⟨rfl, rfl, rfl, by decide +kernel, rfl, by decide +kernel, by decide +kernel⟩
theorem bd_way_of : BdOk "way_of" "way_of" s_way_of ["places"] := fun _ _ _ _ _ _ us hl => by obtain ⟨a0, rfl⟩ := len1 hl; rfl
abbrev s_refuse_no_errand : Stmt := top 18
theorem sc_refuse_no_errand : FnScope ["plays", "handle", "wheels", "end", "goal"] ["plays", "handle", "wheels", "end", "goal"] (defScope s_refuse_no_errand) := ⟨rfl, rfl, rfl, by decide +kernel, rfl, by decide +kernel, by decide +kernel⟩
theorem bd_refuse_no_errand : BdOk "refuse_no_errand" "refuse_no_errand" s_refuse_no_errand ["plays", "handle", "wheels", "end", "goal"] := fun _ _ _ _ _ _ us hl => by obtain ⟨a0, a1, a2, a3, a4, rfl⟩ := len5 hl; rfl
abbrev s_pieces_of : Stmt := top 19
theorem sc_pieces_of : FnScope ["handle", "wheels"] ["handle", "wheels"] (defScope s_pieces_of) := ⟨rfl, rfl, rfl, by decide +kernel, rfl, by decide +kernel, by decide +kernel⟩
theorem bd_pieces_of : BdOk "pieces_of" "pieces_of" s_pieces_of ["handle", "wheels"] := fun _ _ _ _ _ _ us hl => by obtain ⟨a0, a1, rfl⟩ := len2 hl; rfl
abbrev s_must_place : Stmt := top 20
theorem sc_must_place : FnScope ["plays", "end", "goal", "must", "wheel", "side"] ["plays", "end", "goal", "must"] (defScope s_must_place) := ⟨rfl, rfl, rfl, by decide +kernel, rfl, by decide +kernel, by decide +kernel⟩
theorem bd_must_place : BdOk "must_place" "must_place" s_must_place ["plays", "end", "goal", "must"] := fun _ _ _ _ _ _ us hl => by obtain ⟨a0, a1, a2, a3, rfl⟩ := len4 hl; rfl
abbrev s_side_to_go : Stmt := top 21
theorem sc_side_to_go : FnScope ["handle", "wheels", "end", "goal", "wheel", "first", "last"] ["handle", "wheels", "end", "goal", "wheel"] (defScope s_side_to_go) := ⟨rfl, rfl, rfl, by decide +kernel, rfl, by decide +kernel, by decide +kernel⟩
theorem bd_side_to_go : BdOk "side_to_go" "side_to_go" s_side_to_go ["handle", "wheels", "end", "goal", "wheel"] := fun _ _ _ _ _ _ us hl => by obtain ⟨a0, a1, a2, a3, a4, rfl⟩ := len5 hl; rfl
abbrev s_is_beyond : Stmt := top 22
theorem sc_is_beyond : FnScope ["plays", "end", "goal", "ahead", "wheel", "depth", "last"] ["plays", "end", "goal", "ahead", "wheel"] (defScope s_is_beyond) := ⟨rfl, rfl, rfl, by decide +kernel, rfl, by decide +kernel, by decide +kernel⟩
theorem bd_is_beyond : BdOk "is_beyond" "is_beyond" s_is_beyond ["plays", "end", "goal", "ahead", "wheel"] := fun _ _ _ _ _ _ us hl => by obtain ⟨a0, a1, a2, a3, a4, rfl⟩ := len5 hl; rfl
abbrev s_first_musts : Stmt := top 24
theorem sc_first_musts : FnScope ["handle", "wheels", "end", "goal", "wheel", "side"] ["handle", "wheels", "end", "goal"] (defScope s_first_musts) := ⟨rfl, rfl, rfl, by decide +kernel, rfl, by decide +kernel, by decide +kernel⟩
theorem bd_first_musts : BdOk "first_musts" "first_musts" s_first_musts ["handle", "wheels", "end", "goal"] := fun _ _ _ _ _ _ us hl => by obtain ⟨a0, a1, a2, a3, rfl⟩ := len4 hl; rfl
abbrev s_paper_of : Stmt := top 25
theorem sc_paper_of : FnScope ["plays", "handle", "wheels", "end", "goal", "paper", "ahead", "wheel"] ["plays", "handle", "wheels", "end", "goal"] (defScope s_paper_of) := ⟨rfl, rfl, rfl, by decide +kernel, rfl, by decide +kernel, by decide +kernel⟩
theorem bd_paper_of : BdOk "paper_of" "paper_of" s_paper_of ["plays", "handle", "wheels", "end", "goal"] := fun _ _ _ _ _ _ us hl => by obtain ⟨a0, a1, a2, a3, a4, rfl⟩ := len5 hl; rfl
abbrev s_least_row : Stmt := top 26
theorem sc_least_row : FnScope ["plays", "handle", "wheels", "end", "goal", "paper"] ["plays", "handle", "wheels", "end", "goal"] (defScope s_least_row) := ⟨rfl, rfl, rfl, by decide +kernel, rfl, by decide +kernel, by decide +kernel⟩
theorem bd_least_row : BdOk "least_row" "least_row" s_least_row ["plays", "handle", "wheels", "end", "goal"] := fun _ _ _ _ _ _ us hl => by obtain ⟨a0, a1, a2, a3, a4, rfl⟩ := len5 hl; rfl
abbrev s_least_of : Stmt := top 27
theorem sc_least_of : FnScope ["plays", "handle", "wheels", "end", "goal"] ["plays", "handle", "wheels", "end", "goal"] (defScope s_least_of) := ⟨rfl, rfl, rfl, by decide +kernel, rfl, by decide +kernel, by decide +kernel⟩
theorem bd_least_of : BdOk "least_of" "least_of" s_least_of ["plays", "handle", "wheels", "end", "goal"] := fun _ _ _ _ _ _ us hl => by obtain ⟨a0, a1, a2, a3, a4, rfl⟩ := len5 hl; rfl
abbrev s_refuse_no_round : Stmt := top 29
theorem sc_refuse_no_round : FnScope ["plays", "handle", "wheels", "stands", "end", "goal"] ["plays", "handle", "wheels", "stands"] (defScope s_refuse_no_round) := ⟨rfl, rfl, rfl, by decide +kernel, rfl, by decide +kernel, by decide +kernel⟩
theorem bd_refuse_no_round : BdOk "refuse_no_round" "refuse_no_round" s_refuse_no_round ["plays", "handle", "wheels", "stands"] := fun _ _ _ _ _ _ us hl => by obtain ⟨a0, a1, a2, a3, rfl⟩ := len4 hl; rfl
abbrev s_round_way : Stmt := top 30
theorem sc_round_way : FnScope ["plays", "handle", "wheels", "stands", "legs"] ["plays", "handle", "wheels", "stands"] (defScope s_round_way) := ⟨rfl, rfl, rfl, by decide +kernel, rfl, by decide +kernel, by decide +kernel⟩
theorem bd_round_way : BdOk "round_way" "round_way" s_round_way ["plays", "handle", "wheels", "stands"] := fun _ _ _ _ _ _ us hl => by obtain ⟨a0, a1, a2, a3, rfl⟩ := len4 hl; rfl
abbrev s_ways_between : Stmt := top 31
theorem sc_ways_between : FnScope ["plays", "handle", "wheels", "stands"] ["plays", "handle", "wheels", "stands"] (defScope s_ways_between) := ⟨rfl, rfl, rfl, by decide +kernel, rfl, by decide +kernel, by decide +kernel⟩
theorem bd_ways_between : BdOk "ways_between" "ways_between" s_ways_between ["plays", "handle", "wheels", "stands"] := fun _ _ _ _ _ _ us hl => by obtain ⟨a0, a1, a2, a3, rfl⟩ := len4 hl; rfl
abbrev s_best_from : Stmt := top 32
theorem sc_best_from : FnScope ["ways", "last", "numbers", "rounds", "number", "way", "order"] ["ways", "last", "numbers"] (defScope s_best_from) := ⟨rfl, rfl, rfl, by decide +kernel, rfl, by decide +kernel, by decide +kernel⟩
theorem bd_best_from : BdOk "best_from" "best_from" s_best_from ["ways", "last", "numbers"] := fun _ _ _ _ _ _ us hl => by obtain ⟨a0, a1, a2, rfl⟩ := len3 hl; rfl
abbrev s_best_round : Stmt := top 33
theorem sc_best_round : FnScope ["plays", "handle", "wheels", "stands", "ways", "way", "order"] ["plays", "handle", "wheels", "stands"] (defScope s_best_round) := ⟨rfl, rfl, rfl, by decide +kernel, rfl, by decide +kernel, by decide +kernel⟩
theorem bd_best_round : BdOk "best_round" "best_round" s_best_round ["plays", "handle", "wheels", "stands"] := fun _ _ _ _ _ _ us hl => by obtain ⟨a0, a1, a2, a3, rfl⟩ := len4 hl; rfl
abbrev s_farther : Stmt := top 35
theorem sc_farther : FnScope ["ways", "wheels", "places"] ["ways", "wheels", "places"] (defScope s_farther) := ⟨rfl, rfl, rfl, by decide +kernel, rfl, by decide +kernel, by decide +kernel⟩
theorem bd_farther : BdOk "farther" "farther" s_farther ["ways", "wheels", "places"] := fun _ _ _ _ _ _ us hl => by obtain ⟨a0, a1, a2, rfl⟩ := len3 hl; rfl
abbrev s_Walker___init__ : Stmt := inClass (top 36) 0
theorem sc_Walker___init__ : FnScope ["self", "plays", "handle", "wheels"] ["self", "plays", "handle", "wheels"] (defScope s_Walker___init__) := ⟨rfl, rfl, rfl, by decide +kernel, rfl, by decide +kernel, by decide +kernel⟩
theorem bd_Walker___init__ : BdOk "__init__" "Walker.__init__" s_Walker___init__ ["self", "plays", "handle", "wheels"] := fun _ _ _ _ _ _ us hl => by obtain ⟨a0, a1, a2, a3, rfl⟩ := len4 hl; rfl
abbrev s_Walker_go : Stmt := inClass (top 36) 1
theorem sc_Walker_go : FnScope ["self", "place", "handle", "wheels", "ways", "places"] ["self", "place"] (defScope s_Walker_go) := ⟨rfl, rfl, rfl, by decide +kernel, rfl, by decide +kernel, by decide +kernel⟩
theorem bd_Walker_go : BdOk "go" "Walker.go" s_Walker_go ["self", "place"] := fun _ _ _ _ _ _ us hl => by obtain ⟨a0, a1, rfl⟩ := len2 hl; rfl
abbrev s_Walker_handle : Stmt := inClass (top 36) 3
theorem sc_Walker_handle : FnScope ["self"] ["self"] (defScope s_Walker_handle) := ⟨rfl, rfl, rfl, by decide +kernel, rfl, by decide +kernel, by decide +kernel⟩
theorem bd_Walker_handle : BdOk "handle" "Walker.handle" s_Walker_handle ["self"] := fun _ _ _ _ _ _ us hl => by obtain ⟨a0, rfl⟩ := len1 hl; rfl
abbrev s_Walker_wheels : Stmt := inClass (top 36) 4
theorem sc_Walker_wheels : FnScope ["self"] ["self"] (defScope s_Walker_wheels) := ⟨rfl, rfl, rfl, by decide +kernel, rfl, by decide +kernel, by decide +kernel⟩
theorem bd_Walker_wheels : BdOk "wheels" "Walker.wheels" s_Walker_wheels ["self"] := fun _ _ _ _ _ _ us hl => by obtain ⟨a0, rfl⟩ := len1 hl; rfl
abbrev s_law_cell_at : Stmt := top 38
theorem sc_law_cell_at : FnScope ["script", "k"] ["script", "k"] (defScope s_law_cell_at) := ⟨rfl, rfl, rfl, by decide +kernel, rfl, by decide +kernel, by decide +kernel⟩
theorem bd_law_cell_at : BdOk "_law_cell_at" "_law_cell_at" s_law_cell_at ["script", "k"] := fun _ _ _ _ _ _ us hl => by obtain ⟨a0, a1, rfl⟩ := len2 hl; rfl
abbrev s_law_draws : Stmt := top 39
theorem sc_law_draws : FnScope ["cell", "many", "base", "found", "rest", "stirred", "k"] ["cell", "many", "base"] (defScope s_law_draws) := ⟨rfl, rfl, rfl, by decide +kernel, rfl, by decide +kernel, by decide +kernel⟩
theorem bd_law_draws : BdOk "_law_draws" "_law_draws" s_law_draws ["cell", "many", "base"] := fun _ _ _ _ _ _ us hl => by obtain ⟨a0, a1, a2, rfl⟩ := len3 hl; rfl
abbrev s_law_train : Stmt := top 40
theorem sc_law_train : FnScope ["script", "heads", "many", "far", "picks", "plays", "wheels", "handle", "ahead", "k", "play", "side"] ["script"] (defScope s_law_train) := ⟨rfl, rfl, rfl, by decide +kernel, rfl, by decide +kernel, by decide +kernel⟩
theorem bd_law_train : BdOk "_law_train" "_law_train" s_law_train ["script"] := fun _ _ _ _ _ _ us hl => by obtain ⟨a0, rfl⟩ := len1 hl; rfl
abbrev s_law_a_goal : Stmt := top 41
theorem sc_law_a_goal : FnScope ["plays", "picks", "goal", "end", "ahead", "k", "play"] ["plays", "picks"] (defScope s_law_a_goal) := ⟨rfl, rfl, rfl, by decide +kernel, rfl, by decide +kernel, by decide +kernel⟩
theorem bd_law_a_goal : BdOk "_law_a_goal" "_law_a_goal" s_law_a_goal ["plays", "picks"] := fun _ _ _ _ _ _ us hl => by obtain ⟨a0, a1, rfl⟩ := len2 hl; rfl
abbrev s_law_a_gone : Stmt := top 42
theorem sc_law_a_gone : FnScope ["plays", "handle", "wheels", "stands", "walker", "total", "end", "goal", "place"] ["plays", "handle", "wheels", "stands"] (defScope s_law_a_gone) := ⟨rfl, rfl, rfl, by decide +kernel, rfl, by decide +kernel, by decide +kernel⟩
theorem bd_law_a_gone : BdOk "_law_a_gone" "_law_a_gone" s_law_a_gone ["plays", "handle", "wheels", "stands"] := fun _ _ _ _ _ _ us hl => by obtain ⟨a0, a1, a2, a3, rfl⟩ := len4 hl; rfl
abbrev s_law_a_order : Stmt := top 43
theorem sc_law_a_order : FnScope ["many", "picks", "left"] ["many", "picks"] (defScope s_law_a_order) := ⟨rfl, rfl, rfl, by decide +kernel, rfl, by decide +kernel, by decide +kernel⟩
theorem bd_law_a_order : BdOk "_law_a_order" "_law_a_order" s_law_a_order ["many", "picks"] := fun _ _ _ _ _ _ us hl => by obtain ⟨a0, a1, rfl⟩ := len2 hl; rfl
abbrev s_law : Stmt := top 44
theorem sc_law : FnScope ["script", "plays", "handle", "wheels", "picks", "stands", "k", "order", "way", "other", "by", "some", "found", "last", "more"] ["script"] (defScope s_law) := ⟨rfl, rfl, rfl, by decide +kernel, rfl, by decide +kernel, by decide +kernel⟩
abbrev s_Walker_ways : Stmt := inClass (top 36) 5
theorem sc_Walker_ways : FnScope ["self"] ["self"] (defScope s_Walker_ways) := ⟨rfl, rfl, rfl, by decide +kernel, rfl, by decide +kernel, by decide +kernel⟩
theorem bd_Walker_ways : BdOk "ways" "Walker.ways" s_Walker_ways ["self"] := fun _ _ _ _ _ _ us hl => by obtain ⟨a0, rfl⟩ := len1 hl; rfl
structure Txt (mg : Str → Option Value) : Prop where
  z_abs : mg "abs" = none
  z_enumerate : mg "enumerate" = none
  z_int : mg "int" = none
  z_len : mg "len" = none
  z_list : mg "list" = none
  z_min : mg "min" = none
  z_range : mg "range" = none
  z_sum : mg "sum" = none
  z_zip : mg "zip" = none
  g_MOST_PLAYS : ∃ t, mg "MOST_PLAYS" = some (.int 12 t)
structure Own (K : PySem.W.Frag) (mg : Str → Option Value) where
  c_Walker : Addr
  m_Walker : mg "Walker" = some (.ref c_Walker)
  pg_Walker : PySem.W.plainGet K c_Walker Str.empty = true
  hd_Walker : PySem.W.hasDictIn K c_Walker = true
  po_Walker : PySem.W.plainOver K c_Walker = true
  sa_Walker : PySem.W.findIn K (.ref c_Walker) "__setattr__" = some (some (.builtin "object.__setattr__"))
  mk_Walker : PySem.W.makesIn K c_Walker = true
  kc_Walker : PySem.W.keepIn K (.ref c_Walker) = true
  na_Walker_plays : PySem.W.findIn K (.ref c_Walker) "plays" = some none
  na_Walker_states : PySem.W.findIn K (.ref c_Walker) "states" = some none
theorem Own.cl_Walker {K : PySem.W.Frag} {mg : Str → Option Value} (Y : Own K mg) : L2.Cls K Y.c_Walker := ⟨Y.pg_Walker, Y.hd_Walker, Y.po_Walker, Y.sa_Walker⟩
section
variable {P : Program} {w : World} {K : PySem.W.Frag} {mg : Str → Option Value} {base : Heap}
/-- a new list of ints has come -/
structure NewI (H H' : Hp) (l : Addr) (xs : List Int) : Prop where
  fr : H l = none
  sm : Same H H'
  at_ : H' l = some (.lst (iL xs))
theorem NewI.app {H H' : Hp} {l : Addr} {xs : List Int} {x : Int} (N : NewI H H' l xs) : NewI H (upd H' l (.lst (iL xs ++ [V.int x]))) l (xs ++ [x]) :=
  ⟨N.fr, fun b o e => by rw [upd_ne (ne_of_none e N.fr)]; exact N.sm b o e, by rw [upd_same]; simp [iL]⟩
theorem NewI.more {H H' H2 : Hp} {l : Addr} {xs : List Int} (N : NewI H H' l xs) (s : Same H' H2) : NewI H H2 l xs := ⟨N.fr, N.sm.trans s, s _ _ N.at_⟩
def spLaw (K : PySem.W.Frag) : Sp := fun vs H Q _ => ∃ (a : Addr) (ns : List Int), vs = [.ref a] ∧ SqL K H a (ns.map V.int) ∧ ns.length ≤ 63 ∧ ∀ H', Q (.bl true) H'

def spCellAt (K : PySem.W.Frag) : Sp := fun vs H Q _ => ∃ (a : Addr) (ns : List Int) (k : Int), vs = [.ref a, .int k] ∧ SqL K H a (iL ns) ∧ 0 ≤ k ∧ ∀ v, Q (.int v) H
theorem ok_law_cell_at (T : Txt mg) (D : Def K mg "_law_cell_at" s_law_cell_at) : Callee P w K mg base "_law_cell_at" 1 (spCellAt K) := by
  refine D.ok sc_law_cell_at bd_law_cell_at (fun vs H Q E h => ?len) (fun f cdv A outer s H vs Q E hr h => ?body)
  case len => obtain ⟨a, ns, k, rfl, _⟩ := h; rfl
  case body =>
    obtain ⟨a, ns, kk, rfl, hS, h0, k⟩ := h
    have hu := hr.units
    refine ⟨_, (pss_cons (ps_if (pt_cmpR op_lt (pv 1) (pe_callB (call_lenK K) (by rfl) T.z_len bt_len (pa_cons (pv 0) pa_nil)) (nomark _))
 (pss_one (ps_ret (pe_ix (ix_K K) (pv 0) (pv 1) (by exact fun _ _ => rfl))))
 pss_nil)
 (pss_one (ps_ret pe_int))), ?_⟩
    dsimp only [tSeq, tAsg, gName, tOp, tUn, tTest, tB, tAnd, tOr, tNot, tAndV, tOrV, tNotV, tIf, tIfS, tRet, tRetN, tDrop, tNext, tCons, tNil, tCB, tCall, tMenu, tComp, tComp2, msk, List.zipWith, iZip2, iEnum, tNoIf, tTru, tJoin, cxOf_K, tLst, tTup, tSl, tPart, tNoPart, tBM, tBM0, tChain, tC, tFor_eq, gTup, gCons, gNil, gSub, iList, iRng1, iRng2, iRng3, iTup, iZip3, tWhile, tRev, tFld, sFld, tMeth, tMethS, tMake, tAug, tPar, tNever, ipI, List.append_nil]
    try clear hu
    walk_at "st"
    refine i_lenI hS ?_
    walk_at "st"
    refine i_if (fun g => ?_) (fun g => ?_)
    · walk_at "st"
      exact i_ixL hS h0 g (fun v _ _ => k v)
    · walk_at "st"
      exact k 0

def spDraws : Sp := fun vs H Q _ => ∃ cell many bas : Int, vs = [.int cell, .int many, .int bas] ∧ 0 ≤ many ∧ many ≤ 5000 ∧ 0 < bas ∧ bas < 1073741824 ∧
  ∀ l H' xs, NewI H H' l xs → (xs.length : Int) = many → (∀ x ∈ xs, 0 ≤ x ∧ x < bas) → Q (.ref l) H'
theorem ok_law_draws (T : Txt mg) (D : Def K mg "_law_draws" s_law_draws) : Callee P w K mg base "_law_draws" 1 spDraws := by
  refine D.ok sc_law_draws bd_law_draws (fun vs H Q E h => ?len) (fun f cdv A outer s H vs Q E hr h => ?body)
  case len => obtain ⟨p, a, x, rfl, _⟩ := h; rfl
  case body =>
    obtain ⟨cell, many, bas, rfl, h1, h2, h3, h4, k⟩ := h
    refine ⟨_, (pss_cons (ps_set (i := 3) sc_law_draws.nd rfl (Or.inl rfl) (pe_lst pa_nil))
 (pss_cons (ps_set (i := 4) sc_law_draws.nd rfl (Or.inl rfl) (pe_op op_mulP (pv 0) (pe_callTy call_intK (by rfl) T.z_int bt_int (pa_cons (pe_cmpR op_ge (pv 0) (pe_powK (r := 1000000000000000000) (by decide)) (nomark _)) pa_nil))))
 (pss_cons (ps_set (i := 5) sc_law_draws.nd rfl (Or.inl rfl) (pe_op op_mod (pv 0) pe_int))
 (pss_cons (ps_for PassesOwn.never rfl (pi_range1 (by rfl) T.z_range (pa_cons (pe_op op_addP (pv 1) pe_int) pa_nil)) (pg_name (i := 6) sc_law_draws.nd rfl (Or.inl rfl))
 (pss_cons (ps_set (i := 5) sc_law_draws.nd rfl (Or.inl rfl) (pe_op op_mod (pe_op op_addP (pe_op op_addP (pe_op op_addP (pe_op op_mulP (pv 5) (pv 5)) (pe_op op_mulP pe_int (pv 5))) (pv 6)) pe_int) pe_int))
 (pss_one (ps_if (PW.pt (pw_and (pt_cmpR op_gt (pv 6) pe_int (nomark _)) (pw_and1 (pt_cmpR op_gt (pv 4) pe_int (nomark _)))))
 (pss_cons (ps_expr (pe_bmK K PySem.F.plainAttrs_list PySem.F.slot_list_append PySem.F.type_list_append mt_append (pv 3) (pa_cons (pe_op op_mod (pv 4) (pv 2)) pa_nil)))
 (pss_one (ps_set (i := 4) sc_law_draws.nd rfl (Or.inl rfl) (pe_op op_fdiv (pv 4) (pv 2)))))
 (pss_one (ps_if (pt_cmpR op_gt (pv 6) pe_int (nomark _))
 (pss_one (ps_expr (pe_bmK K PySem.F.plainAttrs_list PySem.F.slot_list_append PySem.F.type_list_append mt_append (pv 3) (pa_cons (pe_op op_mod (pe_op op_fdiv (pv 5) pe_int) (pv 2)) pa_nil))))
 pss_nil))))))
 (pss_one (ps_ret (pv 3))))))), ?_⟩
    dsimp only [tSeq, tAsg, gName, tOp, tUn, tTest, tB, tAnd, tOr, tNot, tAndV, tOrV, tNotV, tIf, tIfS, tRet, tRetN, tDrop, tNext, tCons, tNil, tCB, tCall, tMenu, tComp, tComp2, msk, List.zipWith, iZip2, iEnum, tNoIf, tTru, tJoin, cxOf_K, tLst, tTup, tSl, tPart, tNoPart, tBM, tBM0, tChain, tC, tFor_eq, gTup, gCons, gNil, gSub, iList, iRng1, iRng2, iRng3, iTup, iZip3, tWhile, tRev, tFld, sFld, tMeth, tMethS, tMake, tAug, tPar, tNever, ipI, List.append_nil]
    try clear hu
    refine ⟨szl (by decide), fun l hl => ?_⟩
    walk_at "st"
    refine i_mulI (cmul_r ?_ ?_) ?_
    · split <;> decide
    · split <;> decide
    generalize cell * _ = rest
    walk_at "st"
    have hst0 : 0 ≤ cell % 2305843009213693951 := Int.emod_nonneg _ (by decide)
    have hst1 : cell % 2305843009213693951 < 2305843009213693951 := Int.emod_lt_of_pos _ (by decide)
    generalize cell % 2305843009213693951 = stirred at *
    refine ⟨by omega, by omega, lp_range (fun i σ H2 => ∃ (rest stirred : Int) (kk : Option V) (xs : List Int), σ = [some (.int cell), some (.int many), some (.int bas), some (.ref l), some (.int rest), some (.int stirred), kk] ∧
      0 ≤ stirred ∧ stirred < 2305843009213693951 ∧ NewI H H2 l xs ∧ xs.length = i - 3 ∧ ∀ x ∈ xs, 0 ≤ x ∧ x < bas) ?_ ?_ ?_⟩
    · exact ⟨rest, stirred, none, [], rfl, hst0, hst1, ⟨hl, same_upd hl, upd_same⟩, rfl, by simp⟩
    · rintro i σ H2 hi ⟨rest, stirred, kk, xs, rfl, s0, s1, N, hx, hb⟩
      walk_at "st"
      refine i_mulI (cmul_l (by omega) (by omega)) ?_
      walk_at "st"
      refine i_mulI (cmul_l (by decide) (by decide)) ?_
      walk_at "st"
      have hst0 := Int.emod_nonneg (stirred * stirred + 48271 * stirred + (0 + (i : Int)) + 1) (show (2305843009213693951 : Int) ≠ 0 by decide)
      have hst1 := Int.emod_lt_of_pos (stirred * stirred + 48271 * stirred + (0 + (i : Int)) + 1) (show (0 : Int) < 2305843009213693951 by decide)
      generalize (stirred * stirred + 48271 * stirred + (0 + (i : Int)) + 1) % 2305843009213693951 = stirred2 at *
      have app : ∀ v, 3 ≤ i → 0 ≤ v → v < bas → ∀ rest2, ∃ (rest stirred : Int) (kk : Option V) (ys : List Int), [some (V.int cell), some (.int many), some (.int bas), some (.ref l), some (.int rest2), some (.int stirred2), some (V.int (0 + (i : Int)))] = [some (.int cell), some (.int many), some (.int bas), some (.ref l), some (.int rest), some (.int stirred), kk] ∧
        0 ≤ stirred ∧ stirred < 2305843009213693951 ∧ NewI H (upd H2 l (.lst (iL xs ++ [V.int v]))) l ys ∧ ys.length = i + 1 - 3 ∧ ∀ x ∈ ys, 0 ≤ x ∧ x < bas := by
        intro v hi3 hv0 hv1 rest2
        refine ⟨rest2, stirred2, some (V.int (0 + (i : Int))), xs ++ [v], rfl, hst0, hst1, N.app, ?_, ?_⟩
        · simp; omega
        · intro x hxm
          rcases List.mem_append.mp hxm with z | z
          · exact hb x z
          · simp at z; subst z; exact ⟨hv0, hv1⟩
      have lenx : xs.length ≤ 100000 := by omega
      refine i_if (fun g1 => ?_) (fun g1 => ?_)
      · walk_at "st"
        refine i_if (fun g2 => ?_) (fun g2 => ?_)
        · walk_at "st"
          refine ⟨.inl ⟨rfl, _, SqL.of N.at_⟩, ?_⟩
          walk_at "st"
          refine i_app N.at_ (szlt (by simpa [iL] using lenx)) ?_
          walk_at "st"
          exact app _ (by omega) (Int.emod_nonneg _ (by omega)) (Int.emod_lt_of_pos _ h3) _
        · walk_at "st"
          refine i_if (fun g3 => ?_) (fun g3 => absurd g1 g3)
          walk_at "st"
          refine ⟨.inl ⟨rfl, _, SqL.of N.at_⟩, ?_⟩
          walk_at "st"
          refine i_app N.at_ (szlt (by simpa [iL] using lenx)) ?_
          exact app _ (by omega) (Int.emod_nonneg _ (by omega)) (Int.emod_lt_of_pos _ h3) _
      · walk_at "st"
        refine i_if (fun g3 => absurd g3 g1) (fun g3 => ?_)
        exact ⟨rest, stirred2, _, xs, rfl, hst0, hst1, N, by omega, hb⟩
    · rintro σ H2 ⟨rest, stirred, kk, xs, rfl, s0, s1, N, hx, hb⟩
      walk_at "st"
      exact k l H2 xs N (by omega) hb

def spTrain (K : PySem.W.Frag) : Sp := fun vs H Q _ => ∃ (a : Addr) (ns : List Int), vs = [.ref a] ∧ SqL K H a (iL ns) ∧
  ∀ t lp lw ps ws hd H', H t = none → NewI H H' lp ps → NewI H H' lw ws → lp ≠ lw → H' t = some (.tup [.ref lp, .int hd, .ref lw]) → isTr ps → stand ps hd ws → Q (.ref t) H'
theorem ok_law_train (T : Txt mg) (D : Def K mg "_law_train" s_law_train) (C_law_draws : Callee P w K mg base "_law_draws" 1 spDraws) (C_law_cell_at : Callee P w K mg base "_law_cell_at" 1 (spCellAt K)) : Callee P w K mg base "_law_train" 2 (spTrain K) := by
  refine D.ok sc_law_train bd_law_train (fun vs H Q E h => ?len) (fun f cdv A outer s H vs Q E hr h => ?body)
  case len => obtain ⟨a, ns, rfl, _⟩ := h; rfl
  case body =>
    obtain ⟨a, ns, rfl, hS, k⟩ := h
    refine ⟨_, (pss_cons (ps_set (i := 1) sc_law_train.nd rfl (Or.inl rfl) (pe_callN C_law_draws (hr.mono (by decide)) (by rfl) (pa_cons (pe_callN C_law_cell_at (hr.mono (by decide)) (by rfl) (pa_cons (pv 0) (pa_cons pe_int pa_nil))) (pa_cons pe_int (pa_cons pe_int pa_nil)))))
 (pss_cons (ps_set (i := 2) sc_law_train.nd rfl (Or.inl rfl) (pe_menu (pa_cons (pe_op op_addP pe_int (pe_op op_mod (pe_ix (ix_K K) (pv 1) pe_int (by exact fun _ _ => rfl)) pe_int)) (pa_cons (pe_op op_addP pe_int (pe_op op_mod (pe_ix (ix_K K) (pv 1) pe_int (by exact fun _ _ => rfl)) pe_int)) (pa_cons pe_int pa_nil))) (pe_op op_mod (pe_ix (ix_K K) (pv 1) pe_int (by exact fun _ _ => rfl)) pe_int) (by exact fun _ _ => rfl)))
 (pss_cons (ps_set (i := 3) sc_law_train.nd rfl (Or.inl rfl) (pe_menu (pa_cons pe_int (pa_cons pe_int (pa_cons (pe_powK (r := 100000000000000000000) (by decide)) (pa_cons pe_int pa_nil)))) (pe_op op_mod (pe_ix (ix_K K) (pv 1) pe_int (by exact fun _ _ => rfl)) pe_int) (by exact fun _ _ => rfl)))
 (pss_cons (ps_set (i := 4) sc_law_train.nd rfl (Or.inl rfl) (pe_callN C_law_draws (hr.mono (by decide)) (by rfl) (pa_cons (pe_callN C_law_cell_at (hr.mono (by decide)) (by rfl) (pa_cons (pv 0) (pa_cons pe_int pa_nil))) (pa_cons pe_int (pa_cons (pe_powK (r := 1000000000) (by decide)) pa_nil)))))
 (pss_cons (ps_set (i := 5) sc_law_train.nd rfl (Or.inl rfl) (pe_lst pa_nil))
 (pss_cons (ps_set (i := 6) sc_law_train.nd rfl (Or.inl rfl) (pe_lst pa_nil))
 (pss_cons (ps_set (i := 7) sc_law_train.nd rfl (Or.inl rfl) (pe_op op_mulP (pe_op op_sub (pe_ix (ix_K K) (pv 1) pe_int (by exact fun _ _ => rfl)) pe_int) (pe_menu (pa_cons pe_int (pa_cons pe_int (pa_cons (pe_powK (r := 1000000000000000000000000) (by decide)) pa_nil))) (pe_op op_mod (pe_ix (ix_K K) (pv 1) pe_int (by exact fun _ _ => rfl)) pe_int) (by exact fun _ _ => rfl))))
 (pss_cons (ps_set (i := 8) sc_law_train.nd rfl (Or.inl rfl) (pv 7))
 (pss_cons (ps_for PassesOwn.never rfl (pi_range1 (by rfl) T.z_range (pa_cons (pv 2) pa_nil)) (pg_name (i := 9) sc_law_train.nd rfl (Or.inl rfl))
 (pss_cons (ps_set (i := 10) sc_law_train.nd rfl (Or.inl rfl) (pe_op op_mod (pe_op op_mulP (pe_ix (ix_K K) (pv 4) (pv 9) (by exact fun _ _ => rfl)) (pe_op op_addP (pe_powK (r := 1000000000000) (by decide)) pe_int)) (pe_op op_addP (pv 3) pe_int)))
 (pss_join (ps_if (pt_cmpR op_gt (pe_op op_mod (pe_ix (ix_K K) (pv 4) (pv 9) (by exact fun _ _ => rfl)) pe_int) pe_int (nomark _))
 (pss_one (ps_set (i := 10) sc_law_train.nd rfl (Or.inl rfl) (pe_op op_mod (pe_ix (ix_K K) (pv 4) (pv 9) (by exact fun _ _ => rfl)) (pe_op op_addP (pv 3) pe_int))))
 pss_nil)
 (pss_cons (ps_set (i := 11) sc_law_train.nd rfl (Or.inl rfl) (pe_menu (pa_cons (pe_op op_sub pe_int (pv 10)) (pa_cons (pv 10) (pa_cons (pe_op op_sub (pe_op op_mod (pe_op op_mulP (pe_ix (ix_K K) (pv 4) (pe_op op_addP pe_int (pv 9)) (by exact fun _ _ => rfl)) (pe_op op_addP (pe_powK (r := 1000000000000) (by decide)) pe_int)) (pe_op op_addP (pe_op op_mulP pe_int (pv 10)) pe_int)) (pv 10)) pa_nil))) (pe_op op_mod (pe_ix (ix_K K) (pv 4) (pe_op op_addP pe_int (pv 9)) (by exact fun _ _ => rfl)) pe_int) (by exact fun _ _ => rfl)))
 (pss_cons (ps_expr (pe_bmK K PySem.F.plainAttrs_list PySem.F.slot_list_append PySem.F.type_list_append mt_append (pv 5) (pa_cons (pv 10) pa_nil)))
 (pss_cons (ps_set (i := 8) sc_law_train.nd rfl (Or.inl rfl) (pe_op op_addP (pv 8) (pv 11)))
 (pss_one (ps_expr (pe_bmK K PySem.F.plainAttrs_list PySem.F.slot_list_append PySem.F.type_list_append mt_append (pv 6) (pa_cons (pv 8) pa_nil))))))))))
 (pss_one (ps_ret (pe_tup (pa_cons (pv 5) (pa_cons (pv 7) (pa_cons (pv 6) pa_nil))))))))))))))), ?_⟩
    dsimp only [tSeq, tAsg, gName, tOp, tUn, tTest, tB, tAnd, tOr, tNot, tAndV, tOrV, tNotV, tIf, tIfS, tRet, tRetN, tDrop, tNext, tCons, tNil, tCB, tCall, tMenu, tComp, tComp2, msk, List.zipWith, iZip2, iEnum, tNoIf, tTru, tJoin, cxOf_K, tLst, tTup, tSl, tPart, tNoPart, tBM, tBM0, tChain, tC, tFor_eq, gTup, gCons, gNil, gSub, iList, iRng1, iRng2, iRng3, iTup, iZip3, tWhile, tRev, tFld, sFld, tMeth, tMethS, tMake, tAug, tPar, tNever, ipI, List.append_nil]
    try clear hu
    walk_at "st"
    refine ⟨a, ns, 0, rfl, hS, by decide, fun c0 => ?_⟩
    walk_at "st"
    refine ⟨c0, 6, 1000, rfl, by decide, by decide, by decide, by decide, fun lh H1 hs N1 l1 b1 => ?_⟩
    have q1 := SqL.of (K := K) N1.at_
    walk_at "st"
    refine i_ixL q1 (by omega) (by omega) (fun v0 _ m0 => ?_)
    walk_at "st"
    refine i_ixL q1 (by omega) (by omega) (fun v0' _ m0' => ?_)
    walk_at "st"
    refine i_ixL q1 (by omega) (by omega) (fun v1 _ m1 => ?_)
    walk_at "st"
    have e1 := Int.emod_nonneg v0 (show (12 : Int) ≠ 0 by decide)
    have e2 := Int.emod_lt_of_pos v0 (show (0 : Int) < 12 by decide)
    have e3 := Int.emod_nonneg v0' (show (4 : Int) ≠ 0 by decide)
    have e4 := Int.emod_lt_of_pos v0' (show (0 : Int) < 4 by decide)
    refine i_menu3 (Int.emod_nonneg _ (by decide)) (Int.emod_lt_of_pos _ (by decide)) (fun many hm => ?_)
    have hmany : 1 ≤ many ∧ many ≤ 12 := by omega
    clear hm e1 e2 e3 e4
    walk_at "st"
    refine i_ixL q1 (by omega) (by omega) (fun v2 _ m2 => ?_)
    walk_at "st"
    refine i_menu4 (Int.emod_nonneg _ (by decide)) (Int.emod_lt_of_pos _ (by decide)) (fun far hf => ?_)
    have hfar : 0 ≤ far := by omega
    clear hf
    walk_at "st"
    refine ⟨a, ns, 1, rfl, N1.sm.seq hS, by decide, fun c1 => ?_⟩
    walk_at "st"
    refine ⟨c1, 36, 1000000000, rfl, by decide, by decide, by decide, by decide, fun lq H2 pk N2 l2 b2 => ?_⟩
    have q2 := SqL.of (K := K) N2.at_
    have q1' := N2.sm.seq q1
    walk_at "st"
    intro lp hp
    walk_at "st"
    intro lw hw
    walk_at "st"
    have s3 : Same H2 (upd (upd H2 lp (.lst [])) lw (.lst [])) := (same_upd hp).trans (same_upd hw)
    refine i_ixL (s3.seq q1') (by omega) (by omega) (fun v3 _ m3 => ?_)
    have hb3 := b1 _ m3
    walk_at "st"
    refine i_ixL (s3.seq q1') (by omega) (by omega) (fun v4 _ m4 => ?_)
    walk_at "st"
    refine i_menu3 (Int.emod_nonneg _ (by decide)) (Int.emod_lt_of_pos _ (by decide)) (fun sc _ => ?_)
    refine i_mulI (cmul_l (by omega) (by omega)) ?_
    generalize (v3 - 500) * sc = hd
    walk_at "st"
    have hne : lp ≠ lw := ne_of_none upd_same hw
    have hpf : H lp = none := (N1.sm.trans N2.sm).free hp
    have hwf : H lw = none := (N1.sm.trans N2.sm).free ((same_upd hp).free hw)
    refine ⟨by omega, by omega, lp_range (fun i σ H3 => ∃ (ah : Int) (u1 u2 u3 : Option V) (ps ws : List Int), σ = [some (.ref a), some (.ref lh), some (.int many), some (.int far), some (.ref lq), some (.ref lp), some (.ref lw), some (.int hd), some (.int ah), u1, u2, u3] ∧
      Same H2 H3 ∧ H3 lp = some (.lst (iL ps)) ∧ H3 lw = some (.lst (iL ws)) ∧ ps.length = i ∧ ws.length = i ∧ i ≤ 12 ∧ (∀ p ∈ ps, 0 ≤ p) ∧ keeps ps hd ws ∧ lastOf hd ws = ah) ?_ ?_ ?_⟩
    · exact ⟨hd, _, _, _, [], [], rfl, s3, by rw [upd_ne hne, upd_same]; rfl, upd_same, rfl, rfl, by decide, by simp, trivial, rfl⟩
    · rintro i σ H3 hi ⟨ah, u1, u2, u3, ps, ws, rfl, sm, hP, hW, lps, lws, hi12, hpos, hk, hlast⟩
      have q3 := sm.seq q2
      walk_at "st"
      refine i_ixL q3 (by omega) (by omega) (fun w0 _ n0 => ?_)
      have c0 := b2 _ n0
      walk_at "st"
      refine i_mulI (cmul_l (by omega) (by omega)) ?_
      walk_at "st"
      have d1 := Int.emod_nonneg (w0 * (1000000000000 + 1)) (show far + 1 ≠ 0 by omega)
      have d2 := Int.emod_lt_of_pos (w0 * (1000000000000 + 1)) (show 0 < far + 1 by omega)
      generalize (w0 * (1000000000000 + 1)) % (far + 1) = play0 at *
      refine ⟨fun σ H4 => ∃ play : Int, σ = [some (.ref a), some (.ref lh), some (.int many), some (.int far), some (.ref lq), some (.ref lp), some (.ref lw), some (.int hd), some (.int ah), some (.int (0 + (i : Int))), some (.int play), u3] ∧ 0 ≤ play ∧ H4 = H3, ?_, ?_⟩
      · walk_at "st"
        refine i_ixL q3 (by omega) (by omega) (fun w1 _ n1 => ?_)
        walk_at "st"
        refine i_if (fun _ => ?_) (fun _ => ?_)
        · walk_at "st"
          refine i_ixL q3 (by omega) (by omega) (fun w2 _ n2 => ?_)
          walk_at "st"
          exact ⟨Int.emod_nonneg _ (by omega), rfl⟩
        · exact ⟨_, rfl, d1, rfl⟩
      · rintro σ H4 ⟨play, rfl, hp0, rfl⟩
        walk_at "st"
        refine i_ixL q3 (by omega) (by omega) (fun w3 _ n3 => ?_)
        have c3 := b2 _ n3
        walk_at "st"
        refine i_mulI (cmul_l (by omega) (by omega)) ?_
        walk_at "st"
        refine i_mulI (cmul_l (by decide) (by decide)) ?_
        walk_at "st"
        have g1 := Int.emod_nonneg (w3 * (1000000000000 + 1)) (show 2 * play + 1 ≠ 0 by omega)
        have g2 := Int.emod_lt_of_pos (w3 * (1000000000000 + 1)) (show 0 < 2 * play + 1 by omega)
        generalize (w3 * (1000000000000 + 1)) % (2 * play + 1) = sd at *
        refine i_ixL q3 (by omega) (by omega) (fun w4 _ n4 => ?_)
        walk_at "st"
        refine i_menu3 (Int.emod_nonneg _ (by decide)) (Int.emod_lt_of_pos _ (by decide)) (fun side hside => ?_)
        have hs1 : side ≤ play ∧ -play ≤ side := by omega
        clear hside
        walk_at "st"
        refine ⟨.inl ⟨rfl, _, SqL.of hP⟩, ?_⟩
        walk_at "st"
        refine i_app hP (szlt (by simp [iL]; omega)) ?_
        walk_at "st"
        have hW' : upd H4 lp (.lst (iL ps ++ [V.int play])) lw = some (.lst (iL ws)) := by rw [upd_ne hne.symm]; exact hW
        refine ⟨.inl ⟨rfl, _, SqL.of hW'⟩, ?_⟩
        walk_at "st"
        refine i_app hW' (szlt (by simp [iL]; omega)) ?_
        refine ⟨ah + side, _, _, _, ps ++ [play], ws ++ [ah + side], rfl, fun b o e => ?_, ?_, ?_, by simp; omega, by simp; omega, by omega, ?_, keeps_snoc ps ws hd (by omega) hk (by omega) (by omega), lastOf_snoc _ _ _⟩
        · have e1 : b ≠ lp := ne_of_none e hp
          have e2 : b ≠ lw := ne_of_none e ((same_upd hp).free hw)
          rw [upd_ne e2, upd_ne e1]; exact sm b o e
        · rw [upd_ne hne, upd_same]; simp [iL]
        · rw [upd_same]; simp [iL]
        · intro p hpm
          rcases List.mem_append.mp hpm with z | z
          · exact hpos p z
          · simp at z; subst z; exact hp0
    · rintro σ H3 ⟨ah, u1, u2, u3, ps, ws, rfl, sm, hP, hW, lps, lws, hi12, hpos, hk, hlast⟩
      walk_at "st"
      intro t ht
      have sA : Same H H3 := (N1.sm.trans N2.sm).trans sm
      exact k t lp lw ps ws hd _ (sA.free ht) ⟨hpf, sA.trans (same_upd ht), same_upd ht _ _ hP⟩ ⟨hwf, sA.trans (same_upd ht), same_upd ht _ _ hW⟩ hne upd_same ⟨by omega, by omega, hpos⟩ ⟨by omega, hk⟩

--SPLIT
def spIsTrain (K : PySem.W.Frag) : Sp := fun vs H Q _ => ∃ (a : Addr) (ps : List Int), vs = [.ref a] ∧ SqL K H a (iL ps) ∧ ∀ b : Bool, (b = true ↔ isTr ps) → Q (.bl b) H
theorem ok_is_train (T : Txt mg) (D : Def K mg "is_train" s_is_train) : Callee P w K mg base "is_train" 1 (spIsTrain K) := by
  refine D.ok sc_is_train bd_is_train (fun vs H Q E h => ?len) (fun f cdv A outer s H vs Q E hr h => ?body)
  case len => obtain ⟨a, ps, rfl, _⟩ := h; rfl
  case body =>
    obtain ⟨a, ps, rfl, hS, k⟩ := h
    refine ⟨_, (pss_one (ps_ret (pe_and (pe_chain op_le op_le pe_int (pe_callB (call_lenK K) (by rfl) T.z_len bt_len (pa_cons (pv 0) pa_nil)) (pe_globI T.g_MOST_PLAYS (by rfl))) (pe_one (pe_cmpR op_ge (pe_callB (call_minK K) (by rfl) T.z_min bt_min (pa_cons (pv 0) pa_nil)) pe_int (nomark _)))))), ?_⟩
    dsimp only [tSeq, tAsg, gName, tOp, tUn, tTest, tB, tAnd, tOr, tNot, tAndV, tOrV, tNotV, tIf, tIfS, tRet, tRetN, tDrop, tNext, tCons, tNil, tCB, tCall, tMenu, tComp, tComp2, msk, List.zipWith, iZip2, iEnum, tNoIf, tTru, tJoin, cxOf_K, tLst, tTup, tSl, tPart, tNoPart, tBM, tBM0, tChain, tC, tFor_eq, gTup, gCons, gNil, gSub, iList, iRng1, iRng2, iRng3, iTup, iZip3, tWhile, tRev, tFld, sFld, tMeth, tMethS, tMake, tAug, tPar, tNever, ipI, List.append_nil]
    try clear hu
    walk_at "st"
    refine i_lenI hS ?_
    walk_at "st"
    refine i_if (fun g1 => ?_) (fun g1 => ?_)
    · walk_at "st"
      refine i_if (fun g2 => ?_) (fun g2 => ?_)
      · walk_at "st"
        refine i_minL hS (by omega) (fun m hm hle => ?_)
        walk_at "st"
        refine k _ ⟨fun z => ⟨by omega, by omega, fun p hp => ?_⟩, fun z => ?_⟩
        · have := hle p hp
          have := of_decide_eq_true z
          omega
        · exact decide_eq_true (z.2.2 m hm)
      · exact k _ ⟨fun z => (Bool.noConfusion z), fun z => absurd z.2.1 (by omega)⟩
    · walk_at "st"
      exact k _ ⟨fun z => (Bool.noConfusion z), fun z => absurd z.1 (by omega)⟩

def spRefTrain (K : PySem.W.Frag) : Sp := fun vs H Q _ => ∃ (a : Addr) (ps : List Int), vs = [.ref a] ∧ SqL K H a (iL ps) ∧ isTr ps ∧ Q .non H
theorem ok_refuse_no_train (T : Txt mg) (D : Def K mg "refuse_no_train" s_refuse_no_train) (C_is_train : Callee P w K mg base "is_train" 1 (spIsTrain K)) : Callee P w K mg base "refuse_no_train" 2 (spRefTrain K) := by
  refine D.ok sc_refuse_no_train bd_refuse_no_train (fun vs H Q E h => ?len) (fun f cdv A outer s H vs Q E hr h => ?body)
  case len => obtain ⟨a, ps, rfl, _⟩ := h; rfl
  case body =>
    obtain ⟨a, ps, rfl, hS, ht, k⟩ := h
    refine ⟨_, (pss_one (ps_if (pt_not (pt_truthK K (pe_callN C_is_train (hr.mono (by decide)) (by rfl) (pa_cons (pv 0) pa_nil))))
 (pss_one ps_never)
 pss_nil)), ?_⟩
    dsimp only [tSeq, tAsg, gName, tOp, tUn, tTest, tB, tAnd, tOr, tNot, tAndV, tOrV, tNotV, tIf, tIfS, tRet, tRetN, tDrop, tNext, tCons, tNil, tCB, tCall, tMenu, tComp, tComp2, msk, List.zipWith, iZip2, iEnum, tNoIf, tTru, tJoin, cxOf_K, tLst, tTup, tSl, tPart, tNoPart, tBM, tBM0, tChain, tC, tFor_eq, gTup, gCons, gNil, gSub, iList, iRng1, iRng2, iRng3, iTup, iZip3, tWhile, tRev, tFld, sFld, tMeth, tMethS, tMake, tAug, tPar, tNever, ipI, List.append_nil]
    try clear hu
    walk_at "st"
    refine ⟨a, ps, rfl, hS, fun b hb => ?_⟩
    cases hb.mpr ht
    walk_at "st"
    exact k

def spKeeps (K : PySem.W.Frag) : Sp := fun vs H Q _ => ∃ (a b : Addr) (ps xs : List Int) (hd : Int), vs = [.ref a, .int hd, .ref b] ∧ SqL K H a (iL ps) ∧ SqL K H b (iL xs) ∧ ∀ (r : Bool) H', (r = true ↔ keeps ps hd xs) → Same H H' → Q (.bl r) H'
theorem keeps_end {ps xs : List Int} {a : Int} : keeps (ps.drop (min ps.length xs.length)) a (xs.drop (min ps.length xs.length)) := by
  by_cases h : ps.length ≤ xs.length
  · rw [Nat.min_eq_left h, List.drop_of_length_le (Nat.le_refl _)]; trivial
  · rw [Nat.min_eq_right (by omega), List.drop_of_length_le (l := xs) (Nat.le_refl _)]
    cases ps.drop xs.length <;> trivial
theorem ok_keeps_plays (T : Txt mg) (D : Def K mg "keeps_plays" s_keeps_plays) : Callee P w K mg base "keeps_plays" 1 (spKeeps K) := by
  refine D.ok sc_keeps_plays bd_keeps_plays (fun vs H Q E h => ?len) (fun f cdv A outer s H vs Q E hr h => ?body)
  case len => obtain ⟨a, b, ps, xs, hd, rfl, _⟩ := h; rfl
  case body =>
    obtain ⟨a, b, ps, xs, hd, rfl, hA, hB, k⟩ := h
    refine ⟨_, (pss_cons (ps_set (i := 3) sc_keeps_plays.nd rfl (Or.inl rfl) (pv 1))
 (pss_cons (ps_for PassesOwn.never rfl (pi_zip2K K (by rfl) T.z_zip (pa_cons (pv 0) (pa_cons (pv 2) pa_nil))) (pg_tupK K 2 (pgs_cons (pg_name (i := 4) sc_keeps_plays.nd rfl (Or.inl rfl)) (pgs_cons (pg_name (i := 5) sc_keeps_plays.nd rfl (Or.inl rfl)) pgs_nil)))
 (pss_cons (ps_if (pt_cmpR op_gt (pe_callB call_absK (by rfl) T.z_abs bt_abs (pa_cons (pe_op op_sub (pv 5) (pv 3)) pa_nil)) (pv 4) (nomark _))
 (pss_one (ps_ret pe_bl))
 pss_nil)
 (pss_one (ps_set (i := 3) sc_keeps_plays.nd rfl (Or.inl rfl) (pv 5)))))
 (pss_one (ps_ret pe_bl)))), ?_⟩
    dsimp only [tSeq, tAsg, gName, tOp, tUn, tTest, tB, tAnd, tOr, tNot, tAndV, tOrV, tNotV, tIf, tIfS, tRet, tRetN, tDrop, tNext, tCons, tNil, tCB, tCall, tMenu, tComp, tComp2, msk, List.zipWith, iZip2, iEnum, tNoIf, tTru, tJoin, cxOf_K, tLst, tTup, tSl, tPart, tNoPart, tBM, tBM0, tChain, tC, tFor_eq, gTup, gCons, gNil, gSub, iList, iRng1, iRng2, iRng3, iTup, iZip3, tWhile, tRev, tFld, sFld, tMeth, tMethS, tMake, tAug, tPar, tNever, ipI, List.append_nil]
    try clear hu
    walk_at "st"
    refine ⟨_, _, rfl, ⟨_, hA⟩, ⟨_, hB⟩, lp_zip (xs := iL ps) (ys := iL xs) (fun i σ H2 => ∃ (ah : Int) (u v : Option V), σ = [some (.ref a), some (.int hd), some (.ref b), some (.int ah), u, v] ∧ Same H H2 ∧ (keeps ps hd xs ↔ keeps (ps.drop i) ah (xs.drop i))) ?_ ?_ ?_ ?_⟩
    · exact ⟨hd, _, _, rfl, Same.refl _, Iff.rfl⟩
    · rintro i σ H2 ⟨ah, u, v, rfl, sm, hk⟩
      exact ⟨sm.seq hA, sm.seq hB⟩
    · rintro i x y t σ H2 hx hy ⟨ah, u, v, rfl, sm, hk⟩ ht
      rw [List.getElem?_map] at hx hy
      obtain ⟨p, hp, rfl⟩ := Option.map_eq_some_iff.mp hx
      obtain ⟨q, hq, rfl⟩ := Option.map_eq_some_iff.mp hy
      walk_at "st"
      refine ⟨_, _, rfl, SqT.of upd_same, rfl, _, _, rfl, _, _, rfl, rfl, ?_⟩
      walk_at "st"
      rw [dropc hp, dropc hq] at hk
      refine i_if (fun g => ?_) (fun g => ?_)
      · walk_at "st"
        refine k _ _ ⟨fun z => (Bool.noConfusion z), fun z => ?_⟩ (sm.trans (same_upd ht))
        have := (hk.mp z).1
        split at g <;> omega
      · walk_at "st"
        refine ⟨q, _, _, rfl, sm.trans (same_upd ht), hk.trans ⟨fun z => z.2, fun z => ⟨?_, z⟩⟩⟩
        split at g <;> omega
    · rintro σ H2 ⟨ah, u, v, rfl, sm, hk⟩
      walk_at "st"
      refine k _ _ ⟨fun _ => hk.mpr ?_, fun _ => rfl⟩ sm
      simp only [iL, List.length_map]
      exact keeps_end

def spIsStand (K : PySem.W.Frag) : Sp := fun vs H Q _ => ∃ (a b : Addr) (ps xs : List Int) (hd : Int), vs = [.ref a, .int hd, .ref b] ∧ SqL K H a (iL ps) ∧ SqL K H b (iL xs) ∧ isTr ps ∧ ∀ (r : Bool) H', (r = true ↔ stand ps hd xs) → Same H H' → Q (.bl r) H'
theorem ok_is_stand (T : Txt mg) (D : Def K mg "is_stand" s_is_stand) (C_refuse_no_train : Callee P w K mg base "refuse_no_train" 2 (spRefTrain K)) (C_keeps_plays : Callee P w K mg base "keeps_plays" 1 (spKeeps K)) : Callee P w K mg base "is_stand" 3 (spIsStand K) := by
  refine D.ok sc_is_stand bd_is_stand (fun vs H Q E h => ?len) (fun f cdv A outer s H vs Q E hr h => ?body)
  case len => obtain ⟨a, b, ps, xs, hd, rfl, _⟩ := h; rfl
  case body =>
    obtain ⟨a, b, ps, xs, hd, rfl, hA, hB, ht, k⟩ := h
    have hu := hr.units
    refine ⟨_, (pss_cons (ps_expr (pe_callN C_refuse_no_train (hr.mono (by decide)) (by rfl) (pa_cons (pv 0) pa_nil)))
 (pss_one (ps_ret (pe_and (pe_cmpR (op_eqK K hu) (pe_callB (call_lenK K) (by rfl) T.z_len bt_len (pa_cons (pv 2) pa_nil)) (pe_callB (call_lenK K) (by rfl) T.z_len bt_len (pa_cons (pv 0) pa_nil)) (nomark _)) (pe_one (pe_callN C_keeps_plays (hr.mono (by decide)) (by rfl) (pa_cons (pv 0) (pa_cons (pv 1) (pa_cons (pv 2) pa_nil))))))))), ?_⟩
    dsimp only [tSeq, tAsg, gName, tOp, tUn, tTest, tB, tAnd, tOr, tNot, tAndV, tOrV, tNotV, tIf, tIfS, tRet, tRetN, tDrop, tNext, tCons, tNil, tCB, tCall, tMenu, tComp, tComp2, msk, List.zipWith, iZip2, iEnum, tNoIf, tTru, tJoin, cxOf_K, tLst, tTup, tSl, tPart, tNoPart, tBM, tBM0, tChain, tC, tFor_eq, gTup, gCons, gNil, gSub, iList, iRng1, iRng2, iRng3, iTup, iZip3, tWhile, tRev, tFld, sFld, tMeth, tMethS, tMake, tAug, tPar, tNever, ipI, List.append_nil]
    try clear hu
    walk_at "st"
    refine ⟨a, ps, rfl, hA, ht, ?_⟩
    walk_at "st"
    refine i_lenI hB ?_
    walk_at "st"
    refine i_lenI hA ?_
    walk_at "st"
    refine i_if (fun g => ?_) (fun g => ?_)
    · walk_at "st"
      exact ⟨a, b, ps, xs, hd, rfl, hA, hB, fun r H' hr' sm => k r H' (hr'.trans ⟨fun z => ⟨by omega, z⟩, fun z => z.2⟩) sm⟩
    · exact k _ _ ⟨fun z => (Bool.noConfusion z), fun z => absurd z.1 (by omega)⟩ (Same.refl _)

def spRefStand (K : PySem.W.Frag) : Sp := fun vs H Q _ => ∃ (a b : Addr) (ps xs : List Int) (hd : Int), vs = [.ref a, .int hd, .ref b] ∧ SqL K H a (iL ps) ∧ SqL K H b (iL xs) ∧ isTr ps ∧ stand ps hd xs ∧ ∀ H', Same H H' → Q .non H'
theorem ok_refuse_no_stand (T : Txt mg) (D : Def K mg "refuse_no_stand" s_refuse_no_stand) (C_is_stand : Callee P w K mg base "is_stand" 3 (spIsStand K)) : Callee P w K mg base "refuse_no_stand" 4 (spRefStand K) := by
  refine D.ok sc_refuse_no_stand bd_refuse_no_stand (fun vs H Q E h => ?len) (fun f cdv A outer s H vs Q E hr h => ?body)
  case len => obtain ⟨a, b, ps, xs, hd, rfl, _⟩ := h; rfl
  case body =>
    obtain ⟨a, b, ps, xs, hd, rfl, hA, hB, ht, hs, k⟩ := h
    refine ⟨_, (pss_one (ps_if (pt_not (pt_truthK K (pe_callN C_is_stand (hr.mono (by decide)) (by rfl) (pa_cons (pv 0) (pa_cons (pv 1) (pa_cons (pv 2) pa_nil))))))
 (pss_one ps_never)
 pss_nil)), ?_⟩
    dsimp only [tSeq, tAsg, gName, tOp, tUn, tTest, tB, tAnd, tOr, tNot, tAndV, tOrV, tNotV, tIf, tIfS, tRet, tRetN, tDrop, tNext, tCons, tNil, tCB, tCall, tMenu, tComp, tComp2, msk, List.zipWith, iZip2, iEnum, tNoIf, tTru, tJoin, cxOf_K, tLst, tTup, tSl, tPart, tNoPart, tBM, tBM0, tChain, tC, tFor_eq, gTup, gCons, gNil, gSub, iList, iRng1, iRng2, iRng3, iTup, iZip3, tWhile, tRev, tFld, sFld, tMeth, tMethS, tMake, tAug, tPar, tNever, ipI, List.append_nil]
    try clear hu
    walk_at "st"
    refine ⟨a, b, ps, xs, hd, rfl, hA, hB, ht, fun r H' hr' sm => ?_⟩
    cases hr'.mpr hs
    walk_at "st"
    exact k H' sm

def spDragged : Sp := fun vs H Q _ => ∃ p a x, vs = [.int p, .int a, .int x] ∧ Q (.int (drag p a x)) H
theorem ok_dragged (T : Txt mg) (D : Def K mg "dragged" s_dragged) : Callee P w K mg base "dragged" 1 spDragged := by
  refine D.ok sc_dragged bd_dragged (fun vs H Q E h => ?len) (fun f cdv A outer s H vs Q E hr h => ?body)
  case len => obtain ⟨p, a, x, rfl, _⟩ := h; rfl
  case body =>
    obtain ⟨p, a, x, rfl, k⟩ := h
    unfold drag at k
    refine ⟨_, (pss_cons (ps_if (pt_cmpR op_lt (pv 2) (pe_op op_sub (pv 1) (pv 0)) (nomark _))
 (pss_one (ps_ret (pe_op op_sub (pv 1) (pv 0))))
 pss_nil)
 (pss_cons (ps_if (pt_cmpR op_gt (pv 2) (pe_op op_addP (pv 1) (pv 0)) (nomark _))
 (pss_one (ps_ret (pe_op op_addP (pv 1) (pv 0))))
 pss_nil)
 (pss_one (ps_ret (pv 2))))), ?_⟩
    dsimp only [tSeq, tAsg, gName, tOp, tUn, tTest, tB, tAnd, tOr, tNot, tAndV, tOrV, tNotV, tIf, tIfS, tRet, tRetN, tDrop, tNext, tCons, tNil, tCB, tCall, tMenu, tComp, tComp2, msk, List.zipWith, iZip2, iEnum, tNoIf, tTru, tJoin, cxOf_K, tLst, tTup, tSl, tPart, tNoPart, tBM, tBM0, tChain, tC, tFor_eq, gTup, gCons, gNil, gSub, iList, iRng1, iRng2, iRng3, iTup, iZip3, tWhile, tRev, tFld, sFld, tMeth, tMethS, tMake, tAug, tPar, tNever, ipI, List.append_nil]
    try clear hu
    walk_at "st"
    refine i_if (fun h1 => ?_) (fun h1 => ?_)
    · walk_at "st"
      rw [if_pos h1] at k; exact k
    · walk_at "st"
      rw [if_neg h1] at k
      refine i_if (fun h2 => ?_) (fun h2 => ?_)
      · walk_at "st"
        rw [if_pos h2] at k; exact k
      · walk_at "st"
        rw [if_neg h2] at k; exact k

def spAllDr (K : PySem.W.Frag) : Sp := fun vs H Q _ => ∃ (a b : Addr) (ps xs : List Int) (c : Int), vs = [.ref a, .ref b, .int c] ∧ SqL K H a (iL ps) ∧ SqL K H b (iL xs) ∧ ps.length ≤ 12 ∧ (∀ p ∈ ps, 0 ≤ p) ∧ ∀ l H', NewI H H' l (dragAll ps xs c) → Q (.ref l) H'
theorem ok_all_dragged (T : Txt mg) (D : Def K mg "all_dragged" s_all_dragged) (C_dragged : Callee P w K mg base "dragged" 1 spDragged) : Callee P w K mg base "all_dragged" 2 (spAllDr K) := by
  refine D.ok sc_all_dragged bd_all_dragged (fun vs H Q E h => ?len) (fun f cdv A outer s H vs Q E hr h => ?body)
  case len => obtain ⟨a, b, ps, xs, c, rfl, _⟩ := h; rfl
  case body =>
    obtain ⟨a, b, ps, xs, c, rfl, hA, hB, h12, hp0, k⟩ := h
    refine ⟨_, (pss_cons (ps_set (i := 3) sc_all_dragged.nd rfl (Or.inl rfl) (pe_lst pa_nil))
 (pss_cons (ps_set (i := 4) sc_all_dragged.nd rfl (Or.inl rfl) (pv 2))
 (pss_cons (ps_for PassesOwn.never rfl (pi_zip2K K (by rfl) T.z_zip (pa_cons (pv 0) (pa_cons (pv 1) pa_nil))) (pg_tupK K 2 (pgs_cons (pg_name (i := 5) sc_all_dragged.nd rfl (Or.inl rfl)) (pgs_cons (pg_name (i := 6) sc_all_dragged.nd rfl (Or.inl rfl)) pgs_nil)))
 (pss_cons (ps_set (i := 4) sc_all_dragged.nd rfl (Or.inl rfl) (pe_callN C_dragged (hr.mono (by decide)) (by rfl) (pa_cons (pv 5) (pa_cons (pv 4) (pa_cons (pv 6) pa_nil)))))
 (pss_one (ps_expr (pe_bmK K PySem.F.plainAttrs_list PySem.F.slot_list_append PySem.F.type_list_append mt_append (pv 3) (pa_cons (pv 4) pa_nil))))))
 (pss_one (ps_ret (pv 3)))))), ?_⟩
    dsimp only [tSeq, tAsg, gName, tOp, tUn, tTest, tB, tAnd, tOr, tNot, tAndV, tOrV, tNotV, tIf, tIfS, tRet, tRetN, tDrop, tNext, tCons, tNil, tCB, tCall, tMenu, tComp, tComp2, msk, List.zipWith, iZip2, iEnum, tNoIf, tTru, tJoin, cxOf_K, tLst, tTup, tSl, tPart, tNoPart, tBM, tBM0, tChain, tC, tFor_eq, gTup, gCons, gNil, gSub, iList, iRng1, iRng2, iRng3, iTup, iZip3, tWhile, tRev, tFld, sFld, tMeth, tMethS, tMake, tAug, tPar, tNever, ipI, List.append_nil]
    try clear hu
    walk_at "st"
    intro l hl
    walk_at "st"
    have s1 : Same H (upd H l (.lst [])) := same_upd hl
    refine ⟨_, _, rfl, ⟨_, s1.seq hA⟩, ⟨_, s1.seq hB⟩, lp_zip (xs := iL ps) (ys := iL xs) (fun i σ H2 => ∃ (ah : Int) (u v : Option V) (dn : List Int), σ = [some (.ref a), some (.ref b), some (.int c), some (.ref l), some (.int ah), u, v] ∧ NewI H H2 l dn ∧ dn.length ≤ 12 ∧ dn.length = i ∧ dragAll ps xs c = dn ++ dragAll (ps.drop i) (xs.drop i) ah) ?_ ?_ ?_ ?_⟩
    · exact ⟨c, _, _, [], rfl, ⟨hl, s1, upd_same⟩, by simp, rfl, rfl⟩
    · rintro i σ H2 ⟨ah, u, v, dn, rfl, N, hl12, hi, hk⟩
      exact ⟨N.sm.seq hA, N.sm.seq hB⟩
    · rintro i x y t σ H2 hx hy ⟨ah, u, v, dn, rfl, N, hl12, hi, hk⟩ ht
      rw [List.getElem?_map] at hx hy
      obtain ⟨p, hp, rfl⟩ := Option.map_eq_some_iff.mp hx
      obtain ⟨q, hq, rfl⟩ := Option.map_eq_some_iff.mp hy
      have hpl : i < ps.length := (List.getElem?_eq_some_iff.mp hp).1
      walk_at "st"
      refine ⟨_, _, rfl, SqT.of upd_same, rfl, _, _, rfl, _, _, rfl, rfl, ?_⟩
      walk_at "st"
      refine ⟨p, ah, q, rfl, ?_⟩
      rw [dropc hp, dropc hq] at hk
      have N2 := N.more (same_upd (o := .tup [.int p, .int q]) ht)
      walk_at "st"
      refine ⟨.inl ⟨rfl, _, SqL.of N2.at_⟩, ?_⟩
      walk_at "st"
      refine i_app N2.at_ (szlt (by simp [iL]; omega)) ?_
      refine ⟨_, _, _, dn ++ [drag p ah q], rfl, N2.app, by simp; omega, by simp; omega, ?_⟩
      rw [hk, dragAll]; simp
    · rintro σ H2 ⟨ah, u, v, dn, rfl, N, hl12, hi, hk⟩
      walk_at "st"
      have e : dragAll ps xs c = dn := by
        rw [hk]
        simp only [iL, List.length_map]
        by_cases h : ps.length ≤ xs.length
        · rw [Nat.min_eq_left h, List.drop_of_length_le (Nat.le_refl _), dragAll_nil, List.append_nil]
        · rw [Nat.min_eq_right (by omega), List.drop_of_length_le (l := xs) (Nat.le_refl _), dragAll_nil2, List.append_nil]
      rw [e] at k
      exact k l H2 N

def spDepths (K : PySem.W.Frag) : Sp := fun vs H Q _ => ∃ (a : Addr) (ps : List Int), vs = [.ref a] ∧ SqL K H a (iL ps) ∧ isTr ps ∧ ∀ l H', NewI H H' l (depths 0 ps) → Q (.ref l) H'
theorem ok_depths_of (T : Txt mg) (D : Def K mg "depths_of" s_depths_of) (C_refuse_no_train : Callee P w K mg base "refuse_no_train" 2 (spRefTrain K)) : Callee P w K mg base "depths_of" 3 (spDepths K) := by
  refine D.ok sc_depths_of bd_depths_of (fun vs H Q E h => ?len) (fun f cdv A outer s H vs Q E hr h => ?body)
  case len => obtain ⟨a, ps, rfl, _⟩ := h; rfl
  case body =>
    obtain ⟨a, ps, rfl, hA, ht, k⟩ := h
    refine ⟨_, (pss_cons (ps_expr (pe_callN C_refuse_no_train (hr.mono (by decide)) (by rfl) (pa_cons (pv 0) pa_nil)))
 (pss_cons (ps_set (i := 1) sc_depths_of.nd rfl (Or.inl rfl) (pe_lst pa_nil))
 (pss_cons (ps_set (i := 2) sc_depths_of.nd rfl (Or.inl rfl) pe_int)
 (pss_cons (ps_for PassesOwn.never rfl (pi_listK K (pv 0)) (pg_name (i := 3) sc_depths_of.nd rfl (Or.inl rfl))
 (pss_cons (ps_aug (i := 2) sc_depths_of.nd rfl (Or.inl rfl) (pv 3) ip_add)
 (pss_one (ps_expr (pe_bmK K PySem.F.plainAttrs_list PySem.F.slot_list_append PySem.F.type_list_append mt_append (pv 1) (pa_cons (pv 2) pa_nil))))))
 (pss_one (ps_ret (pv 1))))))), ?_⟩
    dsimp only [tSeq, tAsg, gName, tOp, tUn, tTest, tB, tAnd, tOr, tNot, tAndV, tOrV, tNotV, tIf, tIfS, tRet, tRetN, tDrop, tNext, tCons, tNil, tCB, tCall, tMenu, tComp, tComp2, msk, List.zipWith, iZip2, iEnum, tNoIf, tTru, tJoin, cxOf_K, tLst, tTup, tSl, tPart, tNoPart, tBM, tBM0, tChain, tC, tFor_eq, gTup, gCons, gNil, gSub, iList, iRng1, iRng2, iRng3, iTup, iZip3, tWhile, tRev, tFld, sFld, tMeth, tMethS, tMake, tAug, tPar, tNever, ipI, List.append_nil]
    try clear hu
    walk_at "st"
    refine ⟨a, ps, rfl, hA, ht, ?_⟩
    walk_at "st"
    intro l hl
    walk_at "st"
    have s2 : Same H (upd H l (.lst [])) := same_upd hl
    have h12 := ht.2.1
    refine ⟨⟨_, s2.seq hA⟩, lp_ints (ns := ps) (fun i σ H2 => ∃ (u : Option V) (dn : List Int) (dd : Int), σ = [some (.ref a), some (.ref l), some (.int dd), u] ∧ NewI H H2 l dn ∧ dn.length = i ∧ depths 0 ps = dn ++ depths dd (ps.drop i)) ?_ ?_ ?_ ?_⟩
    · exact ⟨_, [], 0, rfl, ⟨hl, s2, upd_same⟩, rfl, rfl⟩
    · rintro i σ H2 _ ⟨u, dn, dd, rfl, N, hi, hd⟩
      exact N.sm.seq hA
    · rintro i x σ H2 hxi ⟨u, dn, dd, rfl, N, hi, hd⟩
      have hil : i < ps.length := (List.getElem?_eq_some_iff.mp hxi).1
      walk_at "st"
      refine ⟨_, _, rfl, rfl, ?_⟩
      walk_at "st"
      refine ⟨.inl ⟨rfl, _, SqL.of N.at_⟩, ?_⟩
      walk_at "st"
      refine i_app N.at_ (szlt (by simp [iL]; omega)) ?_
      refine ⟨_, dn ++ [dd + x], dd + x, rfl, N.app, by simp; omega, ?_⟩
      rw [hd, dropc hxi, depths]; simp
    · rintro σ H2 ⟨u, dn, dd, rfl, N, hi, hd⟩
      walk_at "st"
      rw [List.drop_of_length_le (Nat.le_refl _), depths, List.append_nil] at hd
      rw [hd] at k
      exact k l H2 N

--SPLIT
abbrev MsAt (H : Hp) (ts : List Addr) (ms : List Must) : Prop := Paired (fun t (m : Must) => H t = some (.tup [.int m.1, .int m.2])) ts ms
/-- a new list of musts has come -/
structure NewM (H H' : Hp) (l : Addr) (ms : List Must) (ts : List Addr) : Prop where
  fr : H l = none
  sm : Same H H'
  at_ : H' l = some (.lst (ts.map V.ref))
  it : MsAt H' ts ms
theorem MsAt.more {H H' : Hp} {ts : List Addr} {ms : List Must} (h : MsAt H ts ms) (s : Same H H') : MsAt H' ts ms := Paired.mapP h fun _ _ e => s _ _ e
theorem NewM.more {H H' H2 : Hp} {l : Addr} {ms : List Must} {ts : List Addr} (N : NewM H H' l ms ts) (s : Same H' H2) : NewM H H2 l ms ts := ⟨N.fr, N.sm.trans s, s _ _ N.at_, N.it.more s⟩
theorem MsAt.up {H : Hp} {l : Addr} {vs ws : List V} {ts : List Addr} {ms : List Must} (h : MsAt H ts ms) (hl : H l = some (.lst ws)) : MsAt (upd H l (.lst vs)) ts ms :=
  Paired.mapP h fun t m e => by
    have : t ≠ l := fun z => by rw [z, hl] at e; cases e
    rw [upd_ne this]; exact e
theorem NewM.app {H H' : Hp} {l t : Addr} {ms : List Must} {ts : List Addr} {m : Must} (N : NewM H H' l ms ts) (e : H' t = some (.tup [.int m.1, .int m.2])) : NewM H (upd H' l (.lst (ts.map V.ref ++ [V.ref t]))) l (ms ++ [m]) (ts ++ [t]) := by
  refine ⟨N.fr, fun b o z => by rw [upd_ne (ne_of_none z N.fr)]; exact N.sm b o z, by rw [upd_same]; simp, Paired.snoc (N.it.up N.at_) ?_⟩
  have : t ≠ l := fun z => by rw [z, N.at_] at e; cases e
  rw [upd_ne this]; exact e
theorem ifT {b : Bool} {A B : Prop} (e : b = true) (h : A) : if b = true then A else B := by rw [if_pos e]; exact h
theorem ifF {b : Bool} {A B : Prop} (e : b = false) (h : B) : if b = true then A else B := by rw [if_neg (by rw [e]; exact Bool.false_ne_true)]; exact h
theorem i_pc {H : Hp} {Q : VK} {l : Addr} {xs : List Int} {h w : Int} (hl : H l = some (.lst (iL (xs ++ [h])))) (h0 : -1 ≤ w) (h1 : w < xs.length) (q : Q (.int (pc xs h w)) H) : rIxP K (.ref l) (.int w) H Q := by
  by_cases e : w = -1
  · subst e
    rw [pc_neg] at q
    exact i_ixLast (xs := iL xs) (SqL.of (by rw [hl]; simp [iL])) q
  · have g := pc_get (h := h) (show 0 ≤ w by omega) h1
    exact i_ixN (SqL.of hl) (by omega) (by rw [List.getElem?_map, List.getElem?_append_left (by omega), g]; rfl) q
def spPieces : Sp := fun vs H Q _ => ∃ (hd : Int) (a : Addr) (xs : List Int), vs = [.int hd, .ref a] ∧ H a = some (.lst (iL xs)) ∧ xs.length ≤ 1000 ∧ ∀ l H', NewI H H' l (xs ++ [hd]) → Q (.ref l) H'
theorem ok_pieces_of (T : Txt mg) (D : Def K mg "pieces_of" s_pieces_of) : Callee P w K mg base "pieces_of" 1 spPieces := by
  refine D.ok sc_pieces_of bd_pieces_of (fun vs H Q E h => ?len) (fun f cdv A outer s H vs Q E hr h => ?body)
  case len => obtain ⟨hd, a, xs, rfl, _⟩ := h; rfl
  case body =>
    obtain ⟨hd, a, xs, rfl, hA, hl, k⟩ := h
    refine ⟨_, (pss_one (ps_ret (pe_op op_addP (pv 1) (pe_lst (pa_cons (pv 0) pa_nil))))), ?_⟩
    dsimp only [tSeq, tAsg, gName, tOp, tUn, tTest, tB, tAnd, tOr, tNot, tAndV, tOrV, tNotV, tIf, tIfS, tRet, tRetN, tDrop, tNext, tCons, tNil, tCB, tCall, tMenu, tComp, tComp2, msk, List.zipWith, iZip2, iEnum, tNoIf, tTru, tJoin, cxOf_K, tLst, tTup, tSl, tPart, tNoPart, tBM, tBM0, tChain, tC, tFor_eq, gTup, gCons, gNil, gSub, iList, iRng1, iRng2, iRng3, iTup, iZip3, tWhile, tRev, tFld, sFld, tMeth, tMethS, tMake, tAug, tPar, tNever, ipI, List.append_nil]
    try clear hu
    walk_at "st"
    intro g hg
    refine i_addL (a := a) (b := g) (same_upd hg _ _ hA) upd_same (by simp [iL]; exact szl (by omega)) (fun l hl2 => ?_)
    exact k l _ ⟨(same_upd hg).free hl2, (same_upd hg).trans (same_upd hl2), by rw [upd_same]; simp [iL]⟩

def spRefErr : Sp := fun vs H Q _ => ∃ (a b c : Addr) (ps ws gs : List Int) (hd e : Int), vs = [.ref a, .int hd, .ref b, .int e, .ref c] ∧ H a = some (.lst (iL ps)) ∧ H b = some (.lst (iL ws)) ∧ H c = some (.lst (iL gs)) ∧ isTr ps ∧ stand ps hd ws ∧ stand ps e gs ∧ ∀ H', Same H H' → Q .non H'
theorem ok_refuse_no_errand (T : Txt mg) (D : Def K mg "refuse_no_errand" s_refuse_no_errand) (C_refuse_no_stand : Callee P w K mg base "refuse_no_stand" 4 (spRefStand K)) : Callee P w K mg base "refuse_no_errand" 5 spRefErr := by
  refine D.ok sc_refuse_no_errand bd_refuse_no_errand (fun vs H Q E h => ?len) (fun f cdv A outer s H vs Q E hr h => ?body)
  case len => obtain ⟨a, b, c, ps, ws, gs, hd, e, rfl, _⟩ := h; rfl
  case body =>
    obtain ⟨a, b, c, ps, ws, gs, hd, e, rfl, hA, hB, hC, ht, hs, hg, k⟩ := h
    refine ⟨_, (pss_cons (ps_expr (pe_callN C_refuse_no_stand (hr.mono (by decide)) (by rfl) (pa_cons (pv 0) (pa_cons (pv 1) (pa_cons (pv 2) pa_nil)))))
 (pss_one (ps_expr (pe_callN C_refuse_no_stand (hr.mono (by decide)) (by rfl) (pa_cons (pv 0) (pa_cons (pv 3) (pa_cons (pv 4) pa_nil))))))), ?_⟩
    dsimp only [tSeq, tAsg, gName, tOp, tUn, tTest, tB, tAnd, tOr, tNot, tAndV, tOrV, tNotV, tIf, tIfS, tRet, tRetN, tDrop, tNext, tCons, tNil, tCB, tCall, tMenu, tComp, tComp2, msk, List.zipWith, iZip2, iEnum, tNoIf, tTru, tJoin, cxOf_K, tLst, tTup, tSl, tPart, tNoPart, tBM, tBM0, tChain, tC, tFor_eq, gTup, gCons, gNil, gSub, iList, iRng1, iRng2, iRng3, iTup, iZip3, tWhile, tRev, tFld, sFld, tMeth, tMethS, tMake, tAug, tPar, tNever, ipI, List.append_nil]
    try clear hu
    walk_at "st"
    refine ⟨a, b, ps, ws, hd, rfl, SqL.of hA, SqL.of hB, ht, hs, fun H1 s1 => ?_⟩
    walk_at "st"
    refine ⟨a, c, ps, gs, e, rfl, SqL.of (s1 _ _ hA), SqL.of (s1 _ _ hC), ht, hg, fun H2 s2 => ?_⟩
    walk_at "st"
    exact k H2 (s1.trans s2)

def spMustPlace : Sp := fun vs H Q _ => ∃ (a c t : Addr) (ps gs : List Int) (e : Int) (m : Must), vs = [.ref a, .int e, .ref c, .ref t] ∧ H a = some (.lst (iL ps)) ∧ H c = some (.lst (iL gs)) ∧ H t = some (.tup [.int m.1, .int m.2]) ∧ isTr ps ∧ stand ps e gs ∧ okMust ps.length m ∧
  ∀ H', Same H H' → Q (.int (mp (pc (depths 0 ps) 0) (pc gs e) m)) H'
theorem ok_must_place (T : Txt mg) (D : Def K mg "must_place" s_must_place) (C_refuse_no_stand : Callee P w K mg base "refuse_no_stand" 4 (spRefStand K)) (C_pieces_of : Callee P w K mg base "pieces_of" 1 spPieces) (C_depths_of : Callee P w K mg base "depths_of" 3 (spDepths K)) : Callee P w K mg base "must_place" 5 spMustPlace := by
  refine D.ok sc_must_place bd_must_place (fun vs H Q E h => ?len) (fun f cdv A outer s H vs Q E hr h => ?body)
  case len => obtain ⟨a, c, t, ps, gs, e, m, rfl, _⟩ := h; rfl
  case body =>
    obtain ⟨a, c, t, ps, gs, e, m, rfl, hA, hC, hT, ht, hg, ⟨o1, o2, o3⟩, k⟩ := h
    have h12 := ht.2.1
    have hgl := hg.1
    refine ⟨_, (pss_cons (ps_expr (pe_callN C_refuse_no_stand (hr.mono (by decide)) (by rfl) (pa_cons (pv 0) (pa_cons (pv 1) (pa_cons (pv 2) pa_nil)))))
 (pss_cons (ps_asg (pv 3) (pg_tupK K 2 (pgs_cons (pg_name (i := 4) sc_must_place.nd rfl (Or.inl rfl)) (pgs_cons (pg_name (i := 5) sc_must_place.nd rfl (Or.inl rfl)) pgs_nil))))
 (pss_one (ps_ret (pe_op op_addP (pe_ix (ix_K K) (pe_callN C_pieces_of (hr.mono (by decide)) (by rfl) (pa_cons (pv 1) (pa_cons (pv 2) pa_nil))) (pv 4) (by exact fun _ _ => rfl)) (pe_op op_mulP (pv 5) (pe_ix (ix_K K) (pe_callN C_pieces_of (hr.mono (by decide)) (by rfl) (pa_cons pe_int (pa_cons (pe_callN C_depths_of (hr.mono (by decide)) (by rfl) (pa_cons (pv 0) pa_nil)) pa_nil))) (pv 4) (by exact fun _ _ => rfl)))))))), ?_⟩
    dsimp only [tSeq, tAsg, gName, tOp, tUn, tTest, tB, tAnd, tOr, tNot, tAndV, tOrV, tNotV, tIf, tIfS, tRet, tRetN, tDrop, tNext, tCons, tNil, tCB, tCall, tMenu, tComp, tComp2, msk, List.zipWith, iZip2, iEnum, tNoIf, tTru, tJoin, cxOf_K, tLst, tTup, tSl, tPart, tNoPart, tBM, tBM0, tChain, tC, tFor_eq, gTup, gCons, gNil, gSub, iList, iRng1, iRng2, iRng3, iTup, iZip3, tWhile, tRev, tFld, sFld, tMeth, tMethS, tMake, tAug, tPar, tNever, ipI, List.append_nil]
    try clear hu
    walk_at "st"
    refine ⟨a, c, ps, gs, e, rfl, SqL.of hA, SqL.of hC, ht, hg, fun H1 s1 => ?_⟩
    walk_at "st"
    refine ⟨_, _, rfl, SqT.of (s1 _ _ hT), rfl, _, _, rfl, _, _, rfl, rfl, ?_⟩
    walk_at "st"
    refine ⟨e, c, gs, rfl, s1 _ _ hC, by omega, fun l1 H2 N2 => ?_⟩
    walk_at "st"
    refine i_pc N2.at_ o1 (by omega) ?_
    walk_at "st"
    refine ⟨a, ps, rfl, SqL.of (N2.sm _ _ (s1 _ _ hA)), ht, fun l2 H3 N3 => ?_⟩
    walk_at "st"
    refine ⟨0, l2, depths 0 ps, rfl, N3.at_, by rw [depths_length]; omega, fun l3 H4 N4 => ?_⟩
    walk_at "st"
    refine i_pc N4.at_ o1 (by rw [depths_length]; omega) ?_
    walk_at "st"
    refine i_mulI (cmul_l (by omega) (by omega)) ?_
    walk_at "st"
    exact k H4 (((s1.trans N2.sm).trans N3.sm).trans N4.sm)

def spSide : Sp := fun vs H Q _ => ∃ (b c : Addr) (ws gs : List Int) (hd e wh : Int), vs = [.int hd, .ref b, .int e, .ref c, .int wh] ∧ H b = some (.lst (iL ws)) ∧ H c = some (.lst (iL gs)) ∧ ws.length ≤ 12 ∧ gs.length = ws.length ∧ -1 ≤ wh ∧ wh < ws.length ∧
  ∀ H', Same H H' → Q (.int (if pc ws hd wh = pc gs e wh then 0 else sgn (pc ws hd) (pc gs e) wh)) H'
theorem ok_side_to_go (T : Txt mg) (D : Def K mg "side_to_go" s_side_to_go) (C_pieces_of : Callee P w K mg base "pieces_of" 1 spPieces) : Callee P w K mg base "side_to_go" 2 spSide := by
  refine D.ok sc_side_to_go bd_side_to_go (fun vs H Q E h => ?len) (fun f cdv A outer s H vs Q E hr h => ?body)
  case len => obtain ⟨b, c, ws, gs, hd, e, wh, rfl, _⟩ := h; rfl
  case body =>
    obtain ⟨b, c, ws, gs, hd, e, wh, rfl, hB, hC, hl, hgl, o1, o2, k⟩ := h
    have hu := hr.units
    refine ⟨_, (pss_cons (ps_set (i := 5) sc_side_to_go.nd rfl (Or.inl rfl) (pe_ix (ix_K K) (pe_callN C_pieces_of (hr.mono (by decide)) (by rfl) (pa_cons (pv 0) (pa_cons (pv 1) pa_nil))) (pv 4) (by exact fun _ _ => rfl)))
 (pss_cons (ps_set (i := 6) sc_side_to_go.nd rfl (Or.inl rfl) (pe_ix (ix_K K) (pe_callN C_pieces_of (hr.mono (by decide)) (by rfl) (pa_cons (pv 2) (pa_cons (pv 3) pa_nil))) (pv 4) (by exact fun _ _ => rfl)))
 (pss_cons (ps_if (pt_cmpR (op_eqK K hu) (pv 5) (pv 6) (nomark _))
 (pss_one (ps_ret pe_int))
 pss_nil)
 (pss_one (ps_ret (pe_ifExp (pt_cmpR op_lt (pv 5) (pv 6) (nomark _)) pe_int (pe_negK (r := -1) (by decide)))))))), ?_⟩
    dsimp only [tSeq, tAsg, gName, tOp, tUn, tTest, tB, tAnd, tOr, tNot, tAndV, tOrV, tNotV, tIf, tIfS, tRet, tRetN, tDrop, tNext, tCons, tNil, tCB, tCall, tMenu, tComp, tComp2, msk, List.zipWith, iZip2, iEnum, tNoIf, tTru, tJoin, cxOf_K, tLst, tTup, tSl, tPart, tNoPart, tBM, tBM0, tChain, tC, tFor_eq, gTup, gCons, gNil, gSub, iList, iRng1, iRng2, iRng3, iTup, iZip3, tWhile, tRev, tFld, sFld, tMeth, tMethS, tMake, tAug, tPar, tNever, ipI, List.append_nil]
    try clear hu
    walk_at "st"
    refine ⟨hd, b, ws, rfl, hB, by omega, fun l1 H1 N1 => ?_⟩
    walk_at "st"
    refine i_pc N1.at_ o1 (by omega) ?_
    walk_at "st"
    refine ⟨e, c, gs, rfl, N1.sm _ _ hC, by omega, fun l2 H2 N2 => ?_⟩
    walk_at "st"
    refine i_pc N2.at_ o1 (by omega) ?_
    walk_at "st"
    have sm := N1.sm.trans N2.sm
    refine i_if (fun g => ?_) (fun g => ?_)
    · walk_at "st"
      rw [if_pos g] at k
      exact k H2 sm
    · walk_at "st"
      rw [if_neg g] at k
      unfold sgn at k
      refine i_if (fun g2 => ?_) (fun g2 => ?_)
      · rw [if_pos g2] at k
        exact k H2 sm
      · rw [if_neg g2] at k
        exact k H2 sm

def spBeyond : Sp := fun vs H Q _ => ∃ (a c t : Addr) (ps gs : List Int) (e wh : Int) (m : Must), vs = [.ref a, .int e, .ref c, .ref t, .int wh] ∧ H a = some (.lst (iL ps)) ∧ H c = some (.lst (iL gs)) ∧ H t = some (.tup [.int m.1, .int m.2]) ∧ isTr ps ∧ stand ps e gs ∧ okMust ps.length m ∧ -1 ≤ wh ∧ wh < ps.length ∧
  ∀ H', Same H H' → Q (.bl (decide (bey (pc (depths 0 ps) 0) (pc gs e) m wh))) H'
theorem ok_is_beyond (T : Txt mg) (D : Def K mg "is_beyond" s_is_beyond) (C_pieces_of : Callee P w K mg base "pieces_of" 1 spPieces) (C_depths_of : Callee P w K mg base "depths_of" 3 (spDepths K)) (C_must_place : Callee P w K mg base "must_place" 5 spMustPlace) : Callee P w K mg base "is_beyond" 6 spBeyond := by
  refine D.ok sc_is_beyond bd_is_beyond (fun vs H Q E h => ?len) (fun f cdv A outer s H vs Q E hr h => ?body)
  case len => obtain ⟨a, c, t, ps, gs, e, wh, m, rfl, _⟩ := h; rfl
  case body =>
    obtain ⟨a, c, t, ps, gs, e, wh, m, rfl, hA, hC, hT, ht, hg, hm, w1, w2, k⟩ := h
    have h12 := ht.2.1
    have hgl := hg.1
    have o3 := hm.2.2
    refine ⟨_, (pss_cons (ps_set (i := 5) sc_is_beyond.nd rfl (Or.inl rfl) (pe_ix (ix_K K) (pe_callN C_pieces_of (hr.mono (by decide)) (by rfl) (pa_cons pe_int (pa_cons (pe_callN C_depths_of (hr.mono (by decide)) (by rfl) (pa_cons (pv 0) pa_nil)) pa_nil))) (pv 4) (by exact fun _ _ => rfl)))
 (pss_cons (ps_set (i := 6) sc_is_beyond.nd rfl (Or.inl rfl) (pe_ix (ix_K K) (pe_callN C_pieces_of (hr.mono (by decide)) (by rfl) (pa_cons (pv 1) (pa_cons (pv 2) pa_nil))) (pv 4) (by exact fun _ _ => rfl)))
 (pss_one (ps_ret (pe_cmpR op_gt (pe_op op_mulP (pe_op op_sub (pe_callN C_must_place (hr.mono (by decide)) (by rfl) (pa_cons (pv 0) (pa_cons (pv 1) (pa_cons (pv 2) (pa_cons (pv 3) pa_nil))))) (pv 6)) (pe_ix (ix_K K) (pv 3) pe_int (by exact fun _ _ => rfl))) (pv 5) (nomark _)))))), ?_⟩
    dsimp only [tSeq, tAsg, gName, tOp, tUn, tTest, tB, tAnd, tOr, tNot, tAndV, tOrV, tNotV, tIf, tIfS, tRet, tRetN, tDrop, tNext, tCons, tNil, tCB, tCall, tMenu, tComp, tComp2, msk, List.zipWith, iZip2, iEnum, tNoIf, tTru, tJoin, cxOf_K, tLst, tTup, tSl, tPart, tNoPart, tBM, tBM0, tChain, tC, tFor_eq, gTup, gCons, gNil, gSub, iList, iRng1, iRng2, iRng3, iTup, iZip3, tWhile, tRev, tFld, sFld, tMeth, tMethS, tMake, tAug, tPar, tNever, ipI, List.append_nil]
    try clear hu
    walk_at "st"
    refine ⟨a, ps, rfl, SqL.of hA, ht, fun l1 H1 N1 => ?_⟩
    walk_at "st"
    refine ⟨0, l1, depths 0 ps, rfl, N1.at_, by rw [depths_length]; omega, fun l2 H2 N2 => ?_⟩
    walk_at "st"
    refine i_pc N2.at_ w1 (by rw [depths_length]; omega) ?_
    have s2 := N1.sm.trans N2.sm
    walk_at "st"
    refine ⟨e, c, gs, rfl, s2 _ _ hC, by omega, fun l3 H3 N3 => ?_⟩
    walk_at "st"
    refine i_pc N3.at_ w1 (by omega) ?_
    have s3 := s2.trans N3.sm
    walk_at "st"
    refine ⟨a, c, t, ps, gs, e, m, rfl, s3 _ _ hA, s3 _ _ hC, s3 _ _ hT, ht, hg, hm, fun H4 s4 => ?_⟩
    have s5 := s3.trans s4
    walk_at "st"
    refine i_ixT (SqT.of (s5 _ _ hT)) (by decide) rfl ?_
    walk_at "st"
    refine i_mulI (cmul_r (by omega) (by omega)) ?_
    walk_at "st"
    exact k H4 s5

def spFirst : Sp := fun vs H Q _ => ∃ (b c : Addr) (ws gs : List Int) (hd e : Int), vs = [.int hd, .ref b, .int e, .ref c] ∧ H b = some (.lst (iL ws)) ∧ H c = some (.lst (iL gs)) ∧ ws.length ≤ 12 ∧ gs.length = ws.length ∧
  ∀ l ts H', NewM H H' l (fm (pc ws hd) (pc gs e) ws.length) ts → Q (.ref l) H'
theorem ok_first_musts (T : Txt mg) (D : Def K mg "first_musts" s_first_musts) (C_side_to_go : Callee P w K mg base "side_to_go" 2 spSide) : Callee P w K mg base "first_musts" 3 spFirst := by
  refine D.ok sc_first_musts bd_first_musts (fun vs H Q E h => ?len) (fun f cdv A outer s H vs Q E hr h => ?body)
  case len => obtain ⟨b, c, ws, gs, hd, e, rfl, _⟩ := h; rfl
  case body =>
    obtain ⟨b, c, ws, gs, hd, e, rfl, hB, hC, hl, hgl, k⟩ := h
    have hu := hr.units
    have kk : ∀ l ts H', NewM H H' l (ff (pc ws hd) (pc gs e) (ws.length + 1)) ts → Q (.ref l) H' := k
    clear k
    refine ⟨_, (pss_cons (ps_for PassesOwn.never rfl (pi_range3 (by rfl) T.z_range (pa_cons (pe_op op_sub (pe_callB (call_lenK K) (by rfl) T.z_len bt_len (pa_cons (pv 1) pa_nil)) pe_int) (pa_cons (pe_negK (r := -2) (by decide)) (pa_cons (pe_negK (r := -1) (by decide)) pa_nil)))) (pg_name (i := 4) sc_first_musts.nd rfl (Or.inl rfl))
 (pss_cons (ps_set (i := 5) sc_first_musts.nd rfl (Or.inl rfl) (pe_callN C_side_to_go (hr.mono (by decide)) (by rfl) (pa_cons (pv 0) (pa_cons (pv 1) (pa_cons (pv 2) (pa_cons (pv 3) (pa_cons (pv 4) pa_nil)))))))
 (pss_one (ps_if (pt_cmpR (op_neK K hu) (pv 5) pe_int (nomark _))
 (pss_one (ps_ret (pe_lst (pa_cons (pe_tup (pa_cons (pv 4) (pa_cons (pv 5) pa_nil))) pa_nil))))
 pss_nil))))
 (pss_one (ps_ret (pe_lst pa_nil)))), ?_⟩
    dsimp only [tSeq, tAsg, gName, tOp, tUn, tTest, tB, tAnd, tOr, tNot, tAndV, tOrV, tNotV, tIf, tIfS, tRet, tRetN, tDrop, tNext, tCons, tNil, tCB, tCall, tMenu, tComp, tComp2, msk, List.zipWith, iZip2, iEnum, tNoIf, tTru, tJoin, cxOf_K, tLst, tTup, tSl, tPart, tNoPart, tBM, tBM0, tChain, tC, tFor_eq, gTup, gCons, gNil, gSub, iList, iRng1, iRng2, iRng3, iTup, iZip3, tWhile, tRev, tFld, sFld, tMeth, tMethS, tMake, tAug, tPar, tNever, ipI, List.append_nil]
    try clear hu
    walk_at "st"
    refine i_lenI (SqL.of hB) ?_
    walk_at "st"
    refine ⟨_, _, rfl, ⟨by omega, by omega, by omega, by omega⟩, lp_down (fun i σ H2 => ∃ (u v : Option V), σ = [some (.int hd), some (.ref b), some (.int e), some (.ref c), u, v] ∧ Same H H2 ∧ i ≤ ws.length + 1 ∧ ff (pc ws hd) (pc gs e) (ws.length + 1) = ff (pc ws hd) (pc gs e) (ws.length + 1 - i)) ?_ ?_ ?_⟩
    · exact ⟨_, _, rfl, Same.refl _, Nat.zero_le _, rfl⟩
    · rintro i σ H2 hi ⟨u, v, rfl, sm, hin, hf⟩
      have hi' : i < ws.length + 1 := by omega
      walk_at "st"
      refine ⟨b, c, ws, gs, hd, e, _, rfl, sm _ _ hB, sm _ _ hC, hl, hgl, by omega, by omega, fun H3 s3 => ?_⟩
      have st := ff_step (pc ws hd) (pc gs e) (ws.length - i)
      rw [show ws.length - i + 1 = ws.length + 1 - i by omega, show ((ws.length - i : Nat) : Int) - 1 = (ws.length : Int) - 1 - i by omega] at st
      generalize hwh : (ws.length : Int) - 1 - (i : Int) = wh at *
      walk_at "st"
      by_cases q : pc ws hd wh = pc gs e wh
      · rw [if_pos q] at st ⊢
        refine i_ifn (fun g => absurd rfl g) (fun _ => ?_)
        refine ⟨_, _, rfl, sm.trans s3, by omega, ?_⟩
        rw [hf, st, show ws.length - i = ws.length + 1 - (i + 1) by omega]
      · rw [if_neg q] at st ⊢
        refine i_ifn (fun _ => ?_) (fun g => absurd g (by unfold sgn; split <;> decide))
        walk_at "st"
        intro t ht
        walk_at "st"
        intro l hl2
        rw [hf, st] at kk
        refine kk l [t] _ ⟨((sm.trans s3).trans (same_upd ht)).free hl2, ((sm.trans s3).trans (same_upd ht)).trans (same_upd hl2), upd_same, .cons (same_upd hl2 _ _ upd_same) .nil⟩
    · rintro σ H2 ⟨u, v, rfl, sm, hin, hf⟩
      walk_at "st"
      intro l hl2
      rw [hf, show ws.length + 1 - ((ws.length : Int) - 1 - -2).toNat = 0 by omega] at kk
      exact kk l [] _ ⟨sm.free hl2, sm.trans (same_upd hl2), upd_same, .nil⟩

--SPLIT
theorem paired_get {α β : Type} {F : α → β → Prop} : ∀ {as : List α} {bs : List β} {i : Nat} {b : β}, Paired F as bs → bs[i]? = some b → ∃ a, as[i]? = some a ∧ F a b
  | _, _, i, b, .nil, h => by simp at h
  | _, _, 0, b, .cons r _, h => by simp at h; subst h; exact ⟨_, rfl, r⟩
  | _, _, i + 1, b, .cons _ t, h => by
    obtain ⟨a, h1, h2⟩ := paired_get (i := i) (b := b) t (by simpa using h)
    exact ⟨a, by simpa using h1, h2⟩
theorem paired_getL {α β : Type} {F : α → β → Prop} : ∀ {as : List α} {bs : List β} {i : Nat} {a : α}, Paired F as bs → as[i]? = some a → ∃ b, bs[i]? = some b ∧ F a b
  | _, _, i, b, .nil, h => by simp at h
  | _, _, 0, b, .cons r _, h => by simp at h; subst h; exact ⟨_, rfl, r⟩
  | _, _, i + 1, b, .cons _ t, h => by
    obtain ⟨a, h1, h2⟩ := paired_getL (i := i) (a := b) t (by simpa using h)
    exact ⟨a, by simpa using h1, h2⟩
def spPaper : Sp := fun vs H Q _ => ∃ (a b c : Addr) (ps ws gs : List Int) (hd e : Int), vs = [.ref a, .int hd, .ref b, .int e, .ref c] ∧ H a = some (.lst (iL ps)) ∧ H b = some (.lst (iL ws)) ∧ H c = some (.lst (iL gs)) ∧ isTr ps ∧ stand ps hd ws ∧ stand ps e gs ∧
  ∀ l ts H', NewM H H' l (told ps hd ws e gs) ts → Q (.ref l) H'
theorem ok_paper_of (T : Txt mg) (D : Def K mg "paper_of" s_paper_of) (C_refuse_no_errand : Callee P w K mg base "refuse_no_errand" 5 spRefErr) (C_first_musts : Callee P w K mg base "first_musts" 3 spFirst) (C_is_beyond : Callee P w K mg base "is_beyond" 6 spBeyond) : Callee P w K mg base "paper_of" 7 spPaper := by
  refine D.ok sc_paper_of bd_paper_of (fun vs H Q E h => ?len) (fun f cdv A outer s H vs Q E hr h => ?body)
  case len => obtain ⟨a, b, c, ps, ws, gs, hd, e, rfl, _⟩ := h; rfl
  case body =>
    obtain ⟨a, b, c, ps, ws, gs, hd, e, rfl, hA, hB, hC, ht, hs, hg, k⟩ := h
    have h12 := ht.2.1
    have hwl := hs.1
    have hgl := hg.1
    refine ⟨_, (pss_cons (ps_expr (pe_callN C_refuse_no_errand (hr.mono (by decide)) (by rfl) (pa_cons (pv 0) (pa_cons (pv 1) (pa_cons (pv 2) (pa_cons (pv 3) (pa_cons (pv 4) pa_nil)))))))
 (pss_cons (ps_set (i := 5) sc_paper_of.nd rfl (Or.inl rfl) (pe_callN C_first_musts (hr.mono (by decide)) (by rfl) (pa_cons (pv 1) (pa_cons (pv 2) (pa_cons (pv 3) (pa_cons (pv 4) pa_nil))))))
 (pss_cons (ps_if (pt_not (pt_truthK K (pv 5)))
 (pss_one (ps_ret (pv 5)))
 pss_nil)
 (pss_cons (ps_set (i := 6) sc_paper_of.nd rfl (Or.inl rfl) (pe_ix (ix_K K) (pv 5) pe_int (by exact fun _ _ => rfl)))
 (pss_cons (ps_for PassesOwn.never rfl (pi_range3 (by rfl) T.z_range (pa_cons (pe_op op_sub (pe_ix (ix_K K) (pv 6) pe_int (by exact fun _ _ => rfl)) pe_int) (pa_cons (pe_negK (r := -2) (by decide)) (pa_cons (pe_negK (r := -1) (by decide)) pa_nil)))) (pg_name (i := 7) sc_paper_of.nd rfl (Or.inl rfl))
 (pss_one (ps_if (pt_truthK K (pe_callN C_is_beyond (hr.mono (by decide)) (by rfl) (pa_cons (pv 0) (pa_cons (pv 3) (pa_cons (pv 4) (pa_cons (pv 6) (pa_cons (pv 7) pa_nil)))))))
 (pss_cons (ps_set (i := 6) sc_paper_of.nd rfl (Or.inl rfl) (pe_tup (pa_cons (pv 7) (pa_cons (pe_un un_neg (pe_ix (ix_K K) (pv 6) pe_int (by exact fun _ _ => rfl))) pa_nil))))
 (pss_one (ps_expr (pe_bmK K PySem.F.plainAttrs_list PySem.F.slot_list_append PySem.F.type_list_append mt_append (pv 5) (pa_cons (pv 6) pa_nil)))))
 pss_nil)))
 (pss_one (ps_ret (pv 5)))))))), ?_⟩
    dsimp only [tSeq, tAsg, gName, tOp, tUn, tTest, tB, tAnd, tOr, tNot, tAndV, tOrV, tNotV, tIf, tIfS, tRet, tRetN, tDrop, tNext, tCons, tNil, tCB, tCall, tMenu, tComp, tComp2, msk, List.zipWith, iZip2, iEnum, tNoIf, tTru, tJoin, cxOf_K, tLst, tTup, tSl, tPart, tNoPart, tBM, tBM0, tChain, tC, tFor_eq, gTup, gCons, gNil, gSub, iList, iRng1, iRng2, iRng3, iTup, iZip3, tWhile, tRev, tFld, sFld, tMeth, tMethS, tMake, tAug, tPar, tNever, ipI, List.append_nil]
    try clear hu
    walk_at "st"
    refine ⟨a, b, c, ps, ws, gs, hd, e, rfl, hA, hB, hC, ht, hs, hg, fun H1 s1 => ?_⟩
    walk_at "st"
    refine ⟨b, c, ws, gs, hd, e, rfl, s1 _ _ hB, s1 _ _ hC, by omega, by omega, fun l ts H2 N => ?_⟩
    walk_at "st"
    refine i_truL (SqL.of N.at_) ?_
    have N0 : NewM H H2 l _ ts := ⟨s1.free N.fr, s1.trans N.sm, N.at_, N.it⟩
    clear N
    unfold told paper at k
    rw [← hwl] at k
    rcases fm_spec (F := pc ws hd) (G := pc gs e) ws.length with ⟨e1, q⟩ | ⟨w0, e1, z1, z2, z3, z4⟩
    · rw [e1] at k N0
      have hts : ts = [] := by have := N0.it; cases this; rfl
      subst hts
      refine ifT (by rfl) ?_
      walk_at "st"
      exact k l [] H2 N0
    · rw [e1] at k N0
      simp only [] at k
      obtain ⟨t0, rfl, ht0⟩ : ∃ t0, ts = [t0] ∧ H2 t0 = some (.tup [.int w0, .int (sgn (pc ws hd) (pc gs e) w0)]) := by
        have := N0.it
        cases this with
        | cons h1 h2 => cases h2; exact ⟨_, rfl, h1⟩
      have hs0 : sgn (pc ws hd) (pc gs e) w0 = 1 ∨ sgn (pc ws hd) (pc gs e) w0 = -1 := by unfold sgn; split <;> simp
      rw [rr_of _ _ _ z1] at k
      generalize sgn (pc ws hd) (pc gs e) w0 = s0 at *
      refine ifF (by rfl) ?_
      walk_at "st"
      refine i_ixN (SqL.of N0.at_) (by decide) (v := .ref t0) rfl ?_
      walk_at "st"
      refine i_ixT (SqT.of ht0) (by decide) rfl ?_
      walk_at "st"
      refine ⟨_, _, rfl, ⟨by omega, by omega, by omega, by omega⟩, lp_down (fun i σ H3 => ∃ (u : Option V) (t : Addr) (m : Must) (ms : List Must) (ts : List Addr), σ = [some (.ref a), some (.int hd), some (.ref b), some (.int e), some (.ref c), some (.ref l), some (.ref t), u] ∧ NewM H H3 l ms ts ∧ ms.length ≤ i + 1 ∧ H3 t = some (.tup [.int m.1, .int m.2]) ∧ okMust ps.length m ∧
        (w0, s0) :: rr (pc (depths 0 ps) 0) (pc gs e) (w0 + 1).toNat (w0, s0) = ms ++ rr (pc (depths 0 ps) 0) (pc gs e) ((w0 + 1).toNat - i) m) ?_ ?_ ?_⟩
      · exact ⟨_, t0, (w0, s0), [(w0, s0)], [t0], rfl, N0, by simp, ht0, ⟨z1, by simp only; omega, hs0⟩, rfl⟩
      · rintro i σ H3 hi ⟨u, t, m, ms, ts, rfl, N, hml, hT, hm, heq⟩
        have st := rr_step (pc (depths 0 ps) 0) (pc gs e) ((w0 + 1).toNat - i - 1) m
        rw [show (w0 + 1).toNat - i - 1 + 1 = (w0 + 1).toNat - i by omega, show (((w0 + 1).toNat - i - 1 : Nat) : Int) - 1 = w0 - 1 - i by omega] at st
        walk_at "st"
        have hw1 : -1 ≤ w0 - 1 - (i : Int) := by omega
        have hw2 : w0 - 1 - (i : Int) < ps.length := by omega
        generalize w0 - 1 - (i : Int) = wh at *
        refine ⟨a, c, t, ps, gs, e, wh, m, rfl, N.sm _ _ hA, N.sm _ _ hC, hT, ht, hg, hm, hw1, hw2, fun H4 s4 => ?_⟩
        walk_at "st"
        refine i_if (fun gq => ?_) (fun gq => ?_)
        · rw [if_pos gq] at st
          walk_at "st"
          refine i_ixT (SqT.of (s4 _ _ hT)) (by decide) rfl ?_
          walk_at "st"
          intro t2 ht2
          have N2 := (N.more s4).more (same_upd (o := .tup [.int wh, .int (-m.2)]) ht2)
          have hlen : ts.length ≤ 100 := by rw [N.it.length]; omega
          walk_at "st"
          refine ⟨.inl ⟨rfl, _, SqL.of N2.at_⟩, ?_⟩
          walk_at "st"
          refine i_app N2.at_ (szlt (by simp; omega)) ?_
          have e2 : upd H4 t2 (.tup [.int wh, .int (-m.2)]) t2 = some (.tup [.int wh, .int (-m.2)]) := upd_same
          refine ⟨_, t2, (wh, -m.2), ms ++ [(wh, -m.2)], ts ++ [t2], rfl, N2.app (m := (wh, -m.2)) e2, by simp; omega, ?_, ⟨hw1, hw2, by have := hm.2.2; simp only; omega⟩, ?_⟩
          · have : t2 ≠ l := fun z => by
              have q := N2.at_
              rw [← z, e2] at q; cases q
            rw [upd_ne this]; exact e2
          · rw [heq, st, show (w0 + 1).toNat - i - 1 = (w0 + 1).toNat - (i + 1) by omega]; simp
        · rw [if_neg gq] at st
          refine ⟨_, t, m, ms, ts, rfl, N.more s4, by omega, s4 _ _ hT, hm, ?_⟩
          rw [heq, st, show (w0 + 1).toNat - i - 1 = (w0 + 1).toNat - (i + 1) by omega]
      · rintro σ H3 ⟨u, t, m, ms, ts, rfl, N, hml, hT, hm, heq⟩
        walk_at "st"
        rw [show (w0 + 1).toNat - (w0 - 1 - -2).toNat = 0 by omega] at heq
        rw [heq] at k
        simp only [rr, List.append_nil] at k
        exact k l ts H3 N

theorem chain_ok {n : Nat} {D G : Fn} : ∀ {ms : List Must} {a : Must}, chain n D G a ms → ∀ m ∈ ms, okMust n m
  | m :: ms, a, h, x, hx => by
    rcases List.mem_cons.mp hx with e | e
    · subst e; exact h.1
    · exact chain_ok h.2.2 x e
theorem isPap_ok {n : Nat} {D F G : Fn} : ∀ {ms : List Must}, isPap n D F G ms → ∀ m ∈ ms, okMust n m
  | m :: ms, h, x, hx => by
    rcases List.mem_cons.mp hx with e | e
    · subst e; exact h.1
    · exact chain_ok h.2.2 x e

def spLeastRow : Sp := fun vs H Q _ => ∃ (a b c : Addr) (ps ws gs : List Int) (hd e : Int), vs = [.ref a, .int hd, .ref b, .int e, .ref c] ∧ H a = some (.lst (iL ps)) ∧ H b = some (.lst (iL ws)) ∧ H c = some (.lst (iL gs)) ∧ isTr ps ∧ stand ps hd ws ∧ stand ps e gs ∧
  ∀ l H', NewI H H' l (toldRow ps hd ws e gs) → Q (.ref l) H'
theorem ok_least_row (T : Txt mg) (D : Def K mg "least_row" s_least_row) (C_paper_of : Callee P w K mg base "paper_of" 7 spPaper) (C_must_place : Callee P w K mg base "must_place" 5 spMustPlace) : Callee P w K mg base "least_row" 8 spLeastRow := by
  refine D.ok sc_least_row bd_least_row (fun vs H Q E h => ?len) (fun f cdv A outer s H vs Q E hr h => ?body)
  case len => obtain ⟨a, b, c, ps, ws, gs, hd, e, rfl, _⟩ := h; rfl
  case body =>
    obtain ⟨a, b, c, ps, ws, gs, hd, e, rfl, hA, hB, hC, ht, hs, hg, k⟩ := h
    have h12 := ht.2.1
    refine ⟨_, (pss_cons (ps_set (i := 5) sc_least_row.nd rfl (Or.inl rfl) (pe_callN C_paper_of (hr.mono (by decide)) (by rfl) (pa_cons (pv 0) (pa_cons (pv 1) (pa_cons (pv 2) (pa_cons (pv 3) (pa_cons (pv 4) pa_nil)))))))
 (pss_one (ps_ret (by exact pe_comp (N := ["must", "plays", "end", "goal"]) (fr := [none, some 0, some 3, some 4]) ⟨by rfl, by decide +kernel, by decide +kernel, (show ∀ y ∈ (_ : List (Str × NameKind)), y.2 = NameKind.free → (defScope s_least_row).names.lookup y.1 = some .cell ∨ (defScope s_least_row).names.lookup y.1 = some .free by decide +kernel), (fr_none (fr_some (by rfl) (by first | exact Or.inl rfl | exact Or.inr rfl) (by rfl) (fr_some (by rfl) (by first | exact Or.inl rfl | exact Or.inr rfl) (by rfl) (fr_some (by rfl) (by first | exact Or.inl rfl | exact Or.inr rfl) (by rfl) fr_nil))))⟩ (by rfl) (pi_listK K (pv 5)) (fun _ _ _ _ => (pg_name (i := 0) (show List.Nodup (["must", "plays", "end", "goal"] : List Str) by decide) (by rfl) (by first | exact Or.inl rfl | exact Or.inr rfl))) (fun _ _ _ _ => pifs_nil) (fun _ _ _ _ => (pe_callN C_must_place (hr.mono (by decide)) (by rfl) (pa_cons (pv 1) (pa_cons (pv 2) (pa_cons (pv 3) (pa_cons (pv 0) pa_nil)))))) (gw_name (by rfl)))))), ?_⟩
    dsimp only [tSeq, tAsg, gName, tOp, tUn, tTest, tB, tAnd, tOr, tNot, tAndV, tOrV, tNotV, tIf, tIfS, tRet, tRetN, tDrop, tNext, tCons, tNil, tCB, tCall, tMenu, tComp, tComp2, msk, List.zipWith, iZip2, iEnum, tNoIf, tTru, tJoin, cxOf_K, tLst, tTup, tSl, tPart, tNoPart, tBM, tBM0, tChain, tC, tFor_eq, gTup, gCons, gNil, gSub, iList, iRng1, iRng2, iRng3, iTup, iZip3, tWhile, tRev, tFld, sFld, tMeth, tMethS, tMake, tAug, tPar, tNever, ipI, List.append_nil]
    try clear hu
    walk_at "st"
    refine ⟨a, b, c, ps, ws, gs, hd, e, rfl, hA, hB, hC, ht, hs, hg, fun l ts H1 N => ?_⟩
    walk_at "st"
    have hpl : (told ps hd ws e gs).length ≤ ps.length + 1 := paper_length
    have htl : ts.length ≤ 13 := by rw [N.it.length]; omega
    have hok := isPap_ok (paper_isPap (n := ps.length) (D := pc (depths 0 ps) 0) (F := pc ws hd) (G := pc gs e))
    refine ⟨⟨_, SqL.of N.at_⟩, cp_list (xs := ts.map V.ref) (fun i ys H2 => ys = iL ((toldRow ps hd ws e gs).take i) ∧ i ≤ ts.length ∧ Same H1 H2) ⟨by simp, Nat.zero_le _, Same.refl _⟩ ?_ (szlt (by simp; omega)) ?_ ?_⟩
    · rintro i ys H2 ⟨rfl, hi, sm⟩
      exact ⟨SqL.of (sm _ _ N.at_), by simp [iL]; omega⟩
    · rintro i x ys H2 hx ⟨rfl, hi, sm⟩
      rw [List.getElem?_map] at hx
      obtain ⟨t, hti, rfl⟩ := Option.map_eq_some_iff.mp hx
      obtain ⟨m, hmi, hT⟩ := paired_getL N.it hti
      have hil : i < ts.length := (List.getElem?_eq_some_iff.mp hti).1
      walk_at "st"
      refine ⟨a, c, t, ps, gs, e, m, rfl, sm _ _ (N.sm _ _ hA), sm _ _ (N.sm _ _ hC), sm _ _ hT, ht, hg, hok m (List.mem_of_getElem? hmi), fun H3 s3 => ?_⟩
      refine ⟨?_, by omega, sm.trans s3⟩
      have : (toldRow ps hd ws e gs)[i]? = some (mp (pc (depths 0 ps) 0) (pc gs e) m) := by
        unfold toldRow; rw [List.getElem?_map, hmi]; rfl
      rw [List.take_add_one, this]
      simp [iL]
    · rintro l2 ys H2 ⟨rfl, hi, sm⟩ hl2
      have e1 : (ts.map V.ref).length = (toldRow ps hd ws e gs).length := by unfold toldRow; rw [List.length_map, List.length_map, N.it.length]
      rw [e1, List.take_of_length_le (Nat.le_refl _)]
      have sA := N.sm.trans sm
      exact k l2 _ ⟨sA.free hl2, sA.trans (same_upd hl2), upd_same⟩

--SPLIT
def spWay : Sp := fun vs H Q _ => ∃ (a : Addr) (xs : List Int), vs = [.ref a] ∧ H a = some (.lst (iL xs)) ∧ xs.length ≤ 50000 ∧ ∀ H', Same H H' → Q (.int (wayL xs)) H'
theorem way_step {xs : List Int} {i : Nat} {x y : Int} (hx : xs[i]? = some x) (hy : xs[i + 1]? = some y) : wayL (xs.drop i) = ab (y - x) + wayL (xs.drop (i + 1)) := by
  rw [dropc hx, dropc hy, wayL_two]
theorem ok_way_of (T : Txt mg) (D : Def K mg "way_of" s_way_of) : Callee P w K mg base "way_of" 1 spWay := by
  refine D.ok sc_way_of bd_way_of (fun vs H Q E h => ?len) (fun f cdv A outer s H vs Q E hr h => ?body)
  case len => obtain ⟨a, xs, rfl, _⟩ := h; rfl
  case body =>
    obtain ⟨a, xs, rfl, hA, hl, k⟩ := h
    refine ⟨_, (pss_one (ps_ret (pe_callB (call_sumK K) (by rfl) T.z_sum bt_sum (pa_cons (by exact pe_comp (N := ["ahead", "here"]) (fr := [none, none]) ⟨by rfl, by decide +kernel, by decide +kernel, (show ∀ y ∈ (_ : List (Str × NameKind)), y.2 = NameKind.free → (defScope s_way_of).names.lookup y.1 = some .cell ∨ (defScope s_way_of).names.lookup y.1 = some .free by decide +kernel), (fr_none (fr_none fr_nil))⟩ (by rfl) (pi_zip2K K (by rfl) T.z_zip (pa_cons (pv 0) (pa_cons (pe_slice (sl_listK K) (pv 0) (po_some pe_int) po_none) pa_nil))) (fun _ _ _ _ => (pg_tupK K 2 (pgs_cons (pg_name (i := 0) (show List.Nodup (["ahead", "here"] : List Str) by decide) (by rfl) (by first | exact Or.inl rfl | exact Or.inr rfl)) (pgs_cons (pg_name (i := 1) (show List.Nodup (["ahead", "here"] : List Str) by decide) (by rfl) (by first | exact Or.inl rfl | exact Or.inr rfl)) pgs_nil)))) (fun _ _ _ _ => pifs_nil) (fun _ _ _ _ => (pe_callB call_absK (by rfl) T.z_abs bt_abs (pa_cons (pe_op op_sub (pv 1) (pv 0)) pa_nil))) (gw_tup (gws_cons (gw_name (by rfl)) (gws_cons (gw_name (by rfl)) gws_nil)))) pa_nil)))), ?_⟩
    dsimp only [tSeq, tAsg, gName, tOp, tUn, tTest, tB, tAnd, tOr, tNot, tAndV, tOrV, tNotV, tIf, tIfS, tRet, tRetN, tDrop, tNext, tCons, tNil, tCB, tCall, tMenu, tComp, tComp2, msk, List.zipWith, iZip2, iEnum, tNoIf, tTru, tJoin, cxOf_K, tLst, tTup, tSl, tPart, tNoPart, tBM, tBM0, tChain, tC, tFor_eq, gTup, gCons, gNil, gSub, iList, iRng1, iRng2, iRng3, iTup, iZip3, tWhile, tRev, tFld, sFld, tMeth, tMethS, tMake, tAug, tPar, tNever, ipI, List.append_nil]
    try clear hu
    walk_at "st"
    refine i_slFrom (SqL.of hA) (by decide) (fun p hp => ?_)
    have s1 : Same H _ := same_upd (o := .lst (iL (xs.drop (1 : Int).toNat))) hp
    have e1 : upd H p (.lst (iL (xs.drop (1 : Int).toNat))) p = some (.lst (iL (xs.drop 1))) := upd_same
    generalize upd H p (.lst (iL (xs.drop (1 : Int).toNat))) = H1 at *
    walk_at "st"
    refine ⟨_, _, rfl, ⟨_, SqL.of (s1 _ _ hA)⟩, ⟨_, SqL.of e1⟩, cp_zip (xs := iL xs) (ys := iL (xs.drop 1)) (fun i zs H2 => ∃ ds : List Int, zs = iL ds ∧ ds.length = i ∧ Same H1 H2 ∧ ds.sum + wayL (xs.drop i) = wayL xs) ⟨[], rfl, rfl, Same.refl _, by simp⟩ ?_ (szlt (by simp [iL]; omega)) ?_ ?_⟩
    · rintro i zs H2 ⟨ds, rfl, hd, sm, _⟩
      exact ⟨SqL.of (sm _ _ (s1 _ _ hA)), SqL.of (sm _ _ e1), by simp [iL]; omega⟩
    · rintro i x y t zs H2 hx hy ⟨ds, rfl, hd, sm, hw⟩ ht
      rw [List.getElem?_map] at hx hy
      obtain ⟨x1, hx1, rfl⟩ := Option.map_eq_some_iff.mp hx
      obtain ⟨y1, hy1, rfl⟩ := Option.map_eq_some_iff.mp hy
      rw [List.getElem?_drop, Nat.add_comm] at hy1
      walk_at "st"
      refine ⟨_, _, rfl, SqT.of upd_same, rfl, _, _, rfl, _, _, rfl, rfl, ?_⟩
      walk_at "st"
      refine ⟨ds ++ [ab (y1 - x1)], by simp [iL, ab], by simp; omega, sm.trans (same_upd ht), ?_⟩
      rw [way_step hx1 hy1] at hw
      simp; omega
    · rintro l zs H2 ⟨ds, rfl, hd, sm, hw⟩ hl2
      refine i_sum (SqL.of upd_same) ?_
      rw [wayL_short (by simp [iL]; omega)] at hw
      rw [show ds.sum = wayL xs by omega]
      exact k _ ((s1.trans sm).trans (same_upd hl2))

def spLeastOf : Sp := fun vs H Q _ => ∃ (a b c : Addr) (ps ws gs : List Int) (hd e : Int), vs = [.ref a, .int hd, .ref b, .int e, .ref c] ∧ H a = some (.lst (iL ps)) ∧ H b = some (.lst (iL ws)) ∧ H c = some (.lst (iL gs)) ∧ isTr ps ∧ stand ps hd ws ∧ stand ps e gs ∧
  ∀ H', Same H H' → Q (.int (way hd (toldRow ps hd ws e gs))) H'
theorem toldRow_length {ps ws gs : List Int} {hd e : Int} : (toldRow ps hd ws e gs).length ≤ ps.length + 1 := by
  unfold toldRow; rw [List.length_map]; exact paper_length
theorem ok_least_of (T : Txt mg) (D : Def K mg "least_of" s_least_of) (C_way_of : Callee P w K mg base "way_of" 1 spWay) (C_least_row : Callee P w K mg base "least_row" 8 spLeastRow) : Callee P w K mg base "least_of" 9 spLeastOf := by
  refine D.ok sc_least_of bd_least_of (fun vs H Q E h => ?len) (fun f cdv A outer s H vs Q E hr h => ?body)
  case len => obtain ⟨a, b, c, ps, ws, gs, hd, e, rfl, _⟩ := h; rfl
  case body =>
    obtain ⟨a, b, c, ps, ws, gs, hd, e, rfl, hA, hB, hC, ht, hs, hg, k⟩ := h
    have h12 := ht.2.1
    have hrl : (toldRow ps hd ws e gs).length ≤ ps.length + 1 := toldRow_length
    refine ⟨_, (pss_one (ps_ret (pe_callN C_way_of (hr.mono (by decide)) (by rfl) (pa_cons (pe_op op_addP (pe_lst (pa_cons (pv 1) pa_nil)) (pe_callN C_least_row (hr.mono (by decide)) (by rfl) (pa_cons (pv 0) (pa_cons (pv 1) (pa_cons (pv 2) (pa_cons (pv 3) (pa_cons (pv 4) pa_nil))))))) pa_nil)))), ?_⟩
    dsimp only [tSeq, tAsg, gName, tOp, tUn, tTest, tB, tAnd, tOr, tNot, tAndV, tOrV, tNotV, tIf, tIfS, tRet, tRetN, tDrop, tNext, tCons, tNil, tCB, tCall, tMenu, tComp, tComp2, msk, List.zipWith, iZip2, iEnum, tNoIf, tTru, tJoin, cxOf_K, tLst, tTup, tSl, tPart, tNoPart, tBM, tBM0, tChain, tC, tFor_eq, gTup, gCons, gNil, gSub, iList, iRng1, iRng2, iRng3, iTup, iZip3, tWhile, tRev, tFld, sFld, tMeth, tMethS, tMake, tAug, tPar, tNever, ipI, List.append_nil]
    try clear hu
    walk_at "st"
    intro g hg1
    have s2 : Same H _ := same_upd (o := .lst [V.int hd]) hg1
    have e2 : upd H g (.lst [V.int hd]) g = some (.lst [V.int hd]) := upd_same
    generalize upd H g (.lst [V.int hd]) = H2 at *
    walk_at "st"
    refine ⟨a, b, c, ps, ws, gs, hd, e, rfl, s2 _ _ hA, s2 _ _ hB, s2 _ _ hC, ht, hs, hg, fun l H3 N3 => ?_⟩
    refine i_addL (xs := [V.int hd]) (ys := iL (toldRow ps hd ws e gs)) (N3.sm _ _ e2) N3.at_ (by simp [iL]; exact szl (by omega)) (fun l5 hl5 => ?_)
    refine ⟨l5, hd :: toldRow ps hd ws e gs, rfl, by rw [upd_same]; rfl, by simp; omega, fun H6 s6 => ?_⟩
    exact k _ (((s2.trans N3.sm).trans (same_upd hl5)).trans s6)

/-- lists of ints, one for each -/
def TabAt (H : Hp) (us : List Addr) (tab : List (List Int)) : Prop := Paired (fun u (r : List Int) => H u = some (.lst (iL r))) us tab
theorem TabAt.more {H H' : Hp} {us : List Addr} {tab : List (List Int)} (h : TabAt H us tab) (s : Same H H') : TabAt H' us tab := Paired.mapP h fun _ _ e => s _ _ e

abbrev Std := Int × List Int
abbrev StsAt (H : Hp) (ts : List Addr) (sts : List Std) : Prop := Paired (PairH H) ts sts
theorem PairH.more {H H' : Hp} {t : Addr} {q : Std} (h : PairH H t q) (s : Same H H') : PairH H' t q := by
  obtain ⟨l, h1, h2⟩ := h
  exact ⟨l, s _ _ h1, s _ _ h2⟩
theorem stsMore {H H' : Hp} {ts : List Addr} {sts : List Std} (h : StsAt H ts sts) (s : Same H H') : StsAt H' ts sts := Paired.mapP h fun _ _ e => PairH.more e s
/-- the least way -/
def lw (ps : List Int) (a b : Std) : Int := way a.1 (toldRow ps a.1 a.2 b.1 b.2)
/-- the least way of a round -/
def rsum (ps : List Int) : Std → List Std → Int
  | _, [] => 0
  | a, b :: r => lw ps a b + rsum ps b r
/-- the stand of a number, the first one of -1 -/
def stA (start : Std) (sts : List Std) (l : Int) : Std := if l = -1 then start else sts.getD l.toNat start
def Dw (ps : List Int) (start : Std) (sts : List Std) (l x : Int) : Int := lw ps (stA start sts l) (stA start sts x)
def okSt (ps : List Int) (s : Std) : Prop := stand ps s.1 s.2
theorem stA_get {start : Std} {sts : List Std} {i : Nat} {s : Std} (h : sts[i]? = some s) : stA start sts (i : Int) = s := by
  unfold stA
  rw [if_neg (by omega), Int.toNat_natCast, List.getD_eq_getElem?_getD, h]
  rfl

def spRefRound : Sp := fun vs H Q _ => ∃ (a b c : Addr) (ps ws : List Int) (hd : Int) (ts : List Addr) (sts : List Std), vs = [.ref a, .int hd, .ref b, .ref c] ∧ H a = some (.lst (iL ps)) ∧ H b = some (.lst (iL ws)) ∧ H c = some (.lst (ts.map V.ref)) ∧ StsAt H ts sts ∧ isTr ps ∧ stand ps hd ws ∧ (∀ s ∈ sts, okSt ps s) ∧ ∀ H', Same H H' → Q .non H'
theorem ok_refuse_no_round (T : Txt mg) (D : Def K mg "refuse_no_round" s_refuse_no_round) (C_refuse_no_stand : Callee P w K mg base "refuse_no_stand" 4 (spRefStand K)) : Callee P w K mg base "refuse_no_round" 5 spRefRound := by
  refine D.ok sc_refuse_no_round bd_refuse_no_round (fun vs H Q E h => ?len) (fun f cdv A outer s H vs Q E hr h => ?body)
  case len => obtain ⟨a, b, c, ps, ws, hd, ts, sts, rfl, _⟩ := h; rfl
  case body =>
    obtain ⟨a, b, c, ps, ws, hd, ts, sts, rfl, hA, hB, hC, hT, ht, hs, hok, k⟩ := h
    have hu := hr.units
    have htl : ts.length = sts.length := hT.length
    refine ⟨_, (pss_cons (ps_expr (pe_callN C_refuse_no_stand (hr.mono (by decide)) (by rfl) (pa_cons (pv 0) (pa_cons (pv 1) (pa_cons (pv 2) pa_nil)))))
 (pss_one (ps_for PassesOwn.never rfl (pi_listK K (pv 3)) (pg_tupK K 2 (pgs_cons (pg_name (i := 4) sc_refuse_no_round.nd rfl (Or.inl rfl)) (pgs_cons (pg_name (i := 5) sc_refuse_no_round.nd rfl (Or.inl rfl)) pgs_nil)))
 (pss_one (ps_expr (pe_callN C_refuse_no_stand (hr.mono (by decide)) (by rfl) (pa_cons (pv 0) (pa_cons (pv 4) (pa_cons (pv 5) pa_nil))))))))), ?_⟩
    dsimp only [tSeq, tAsg, gName, tOp, tUn, tTest, tB, tAnd, tOr, tNot, tAndV, tOrV, tNotV, tIf, tIfS, tRet, tRetN, tDrop, tNext, tCons, tNil, tCB, tCall, tMenu, tComp, tComp2, msk, List.zipWith, iZip2, iEnum, tNoIf, tTru, tJoin, cxOf_K, tLst, tTup, tSl, tPart, tNoPart, tBM, tBM0, tChain, tC, tFor_eq, gTup, gCons, gNil, gSub, iList, iRng1, iRng2, iRng3, iTup, iZip3, tWhile, tRev, tFld, sFld, tMeth, tMethS, tMake, tAug, tPar, tNever, ipI, List.append_nil]
    try clear hu
    walk_at "st"
    refine ⟨a, b, ps, ws, hd, rfl, SqL.of hA, SqL.of hB, ht, hs, fun H1 s1 => ?_⟩
    walk_at "st"
    refine ⟨⟨_, SqL.of (s1 _ _ hC)⟩, lp_list (xs := ts.map V.ref) (fun i σ H2 => ∃ u4 u5 : Option V, σ = [some (.ref a), some (.int hd), some (.ref b), some (.ref c), u4, u5] ∧ Same H H2) ?_ ?_ ?_ ?_⟩
    · exact ⟨_, _, rfl, s1⟩
    · rintro i σ H2 _ ⟨u4, u5, rfl, sm⟩
      exact SqL.of (sm _ _ hC)
    · rintro i y σ H2 hy ⟨u4, u5, rfl, sm⟩
      rw [List.getElem?_map] at hy
      obtain ⟨t, hti, rfl⟩ := Option.map_eq_some_iff.mp hy
      obtain ⟨s', hsi, l, hTs, hLs⟩ := paired_getL hT hti
      walk_at "st"
      refine ⟨_, _, rfl, SqT.of (sm _ _ hTs), rfl, _, _, rfl, _, _, rfl, rfl, ?_⟩
      walk_at "st"
      refine ⟨a, l, ps, s'.2, s'.1, rfl, SqL.of (sm _ _ hA), SqL.of (sm _ _ hLs), ht, hok _ (List.mem_of_getElem? hsi), fun H3 s3 => ?_⟩
      exact ⟨_, _, rfl, sm.trans s3⟩
    · rintro σ H2 ⟨u4, u5, rfl, sm⟩
      walk_at "st"
      exact k _ sm

--SPLIT
/-- the least ways as a table -/
def waysT (ps : List Int) (start : Std) (sts : List Std) : List (List Int) := (sts ++ [start]).map fun a => sts.map fun b => lw ps a b
def spWays : Sp := fun vs H Q _ => ∃ (a b c : Addr) (ps ws : List Int) (hd : Int) (ts : List Addr) (sts : List Std), vs = [.ref a, .int hd, .ref b, .ref c] ∧ H a = some (.lst (iL ps)) ∧ H b = some (.lst (iL ws)) ∧ H c = some (.lst (ts.map V.ref)) ∧ StsAt H ts sts ∧ isTr ps ∧ stand ps hd ws ∧ (∀ s ∈ sts, okSt ps s) ∧ sts.length ≤ 1000 ∧
  ∀ l us H', Same H H' → H' l = some (.lst (us.map V.ref)) → TabAt H' us (waysT ps (hd, ws) sts) → Q (.ref l) H'
theorem ok_ways_between (T : Txt mg) (D : Def K mg "ways_between" s_ways_between) (C_least_of : Callee P w K mg base "least_of" 9 spLeastOf) : Callee P w K mg base "ways_between" 10 spWays := by
  refine D.ok sc_ways_between bd_ways_between (fun vs H Q E h => ?len) (fun f cdv A outer s H vs Q E hr h => ?body)
  case len => obtain ⟨a, b, c, ps, ws, hd, ts, sts, rfl, _⟩ := h; rfl
  case body =>
    obtain ⟨a, b, c, ps, ws, hd, ts, sts, rfl, hA, hB, hC, hT, ht, hs, hok, hl, k⟩ := h
    have hu := hr.units
    have htl : ts.length = sts.length := hT.length
    refine ⟨_, (pss_one (ps_ret (by exact pe_compD (N := ["at", "places", "plays", "stands"]) (fr := [none, none, some 0, some 3]) ⟨by rfl, by decide +kernel, by decide +kernel, (show ∀ y ∈ (_ : List (Str × NameKind)), y.2 = NameKind.free → (defScope s_ways_between).names.lookup y.1 = some .cell ∨ (defScope s_ways_between).names.lookup y.1 = some .free by decide +kernel), (fr_none (fr_none (fr_some (by rfl) (by first | exact Or.inl rfl | exact Or.inr rfl) (by rfl) (fr_some (by rfl) (by first | exact Or.inl rfl | exact Or.inr rfl) (by rfl) fr_nil))))⟩ (by rfl) (pi_listK K (pe_op op_addP (pv 3) (pe_lst (pa_cons (pe_tup (pa_cons (pv 1) (pa_cons (pv 2) pa_nil))) pa_nil)))) (fun _ _ _ _ => (pg_tupK K 2 (pgs_cons (pg_name (i := 0) (show List.Nodup (["at", "places", "plays", "stands"] : List Str) by decide) (by rfl) (by first | exact Or.inl rfl | exact Or.inr rfl)) (pgs_cons (pg_name (i := 1) (show List.Nodup (["at", "places", "plays", "stands"] : List Str) by decide) (by rfl) (by first | exact Or.inl rfl | exact Or.inr rfl)) pgs_nil)))) (fun _ _ _ _ => pifs_nil) (fun _ _ _ _ => (by exact pe_comp (N := ["end", "goal", "plays", "at", "places"]) (fr := [none, none, some 2, some 0, some 1]) ⟨by rfl, by decide +kernel, by decide +kernel, nestD_frees (by decide +kernel), (fr_none (fr_none (fr_some (by rfl) (nestD_kind (by first | exact Or.inl rfl | exact Or.inr rfl)) (by rfl) (fr_some (by rfl) (nestD_kind (by first | exact Or.inl rfl | exact Or.inr rfl)) (by rfl) (fr_some (by rfl) (nestD_kind (by first | exact Or.inl rfl | exact Or.inr rfl)) (by rfl) fr_nil)))))⟩ (by rfl) (pi_listK K (pv 3)) (fun _ _ _ _ => (pg_tupK K 2 (pgs_cons (pg_name (i := 0) (show List.Nodup (["end", "goal", "plays", "at", "places"] : List Str) by decide) (by rfl) (by first | exact Or.inl rfl | exact Or.inr rfl)) (pgs_cons (pg_name (i := 1) (show List.Nodup (["end", "goal", "plays", "at", "places"] : List Str) by decide) (by rfl) (by first | exact Or.inl rfl | exact Or.inr rfl)) pgs_nil)))) (fun _ _ _ _ => pifs_nil) (fun _ _ _ _ => (pe_callN C_least_of (hr.mono (by decide)) (by rfl) (pa_cons (pv 2) (pa_cons (pv 3) (pa_cons (pv 4) (pa_cons (pv 0) (pa_cons (pv 1) pa_nil))))))) (gw_tup (gws_cons (gw_name (by rfl)) (gws_cons (gw_name (by rfl)) gws_nil))))) (gw_tup (gws_cons (gw_name (by rfl)) (gws_cons (gw_name (by rfl)) gws_nil)))))), ?_⟩
    dsimp only [tSeq, tAsg, gName, tOp, tUn, tTest, tB, tAnd, tOr, tNot, tAndV, tOrV, tNotV, tIf, tIfS, tRet, tRetN, tDrop, tNext, tCons, tNil, tCB, tCall, tMenu, tComp, tComp2, msk, List.zipWith, iZip2, iEnum, tNoIf, tTru, tJoin, cxOf_K, tLst, tTup, tSl, tPart, tNoPart, tBM, tBM0, tChain, tC, tFor_eq, gTup, gCons, gNil, gSub, iList, iRng1, iRng2, iRng3, iTup, iZip3, tWhile, tRev, tFld, sFld, tMeth, tMethS, tMake, tAug, tPar, tNever, ipI, List.append_nil]
    try clear hu
    walk_at "st"
    intro t1 h1
    have s1 : Same H _ := same_upd (o := .tup [.int hd, .ref b]) h1
    have e1 : upd H t1 (.tup [.int hd, .ref b]) t1 = some (.tup [.int hd, .ref b]) := upd_same
    generalize upd H t1 (.tup [.int hd, .ref b]) = H1 at *
    walk_at "st"
    intro l2 h2
    have s2 : Same H1 _ := same_upd (o := .lst [.ref t1]) h2
    have e2 : upd H1 l2 (.lst [.ref t1]) l2 = some (.lst [.ref t1]) := upd_same
    generalize upd H1 l2 (.lst [.ref t1]) = H2 at *
    refine i_addL (s2 _ _ (s1 _ _ hC)) e2 (szl (by simp; omega)) (fun l3 h3 => ?_)
    have ea : ts.map V.ref ++ [V.ref t1] = (ts ++ [t1]).map V.ref := by simp
    rw [ea]
    have s3 : Same H2 _ := same_upd (o := .lst ((ts ++ [t1]).map V.ref)) h3
    have e3 : upd H2 l3 (.lst ((ts ++ [t1]).map V.ref)) l3 = some (.lst ((ts ++ [t1]).map V.ref)) := upd_same
    generalize upd H2 l3 (.lst ((ts ++ [t1]).map V.ref)) = H3 at *
    have S3 := s1.trans (s2.trans s3)
    have hall : StsAt H3 (ts ++ [t1]) (sts ++ [(hd, ws)]) := Paired.snoc (stsMore hT S3) ⟨b, s3 _ _ (s2 _ _ e1), S3 _ _ hB⟩
    have hokA : ∀ s ∈ sts ++ [(hd, ws)], okSt ps s := fun s hs' => by
      rcases List.mem_append.mp hs' with q | q
      · exact hok s q
      · simp at q; subst q; exact hs
    replace hA := S3 _ _ hA
    replace hC := S3 _ _ hC
    replace hT := stsMore hT S3
    walk_at "st"
    refine ⟨⟨_, SqL.of e3⟩, cp_list (xs := (ts ++ [t1]).map V.ref) (fun i ys H4 => ∃ us : List Addr, ys = us.map V.ref ∧ us.length = i ∧ Same H3 H4 ∧ TabAt H4 us ((waysT ps (hd, ws) sts).take i)) ⟨[], rfl, rfl, Same.refl _, by simpa using .nil⟩ ?_ (szlt (by simp; omega)) ?_ ?_⟩
    · rintro i ys H4 ⟨us, rfl, hul, sm, _⟩
      exact ⟨SqL.of (sm _ _ e3), by simp; omega⟩
    · rintro i y ys H4 hy ⟨us, rfl, hul, sm, hU⟩
      rw [List.getElem?_map] at hy
      obtain ⟨t, hti, rfl⟩ := Option.map_eq_some_iff.mp hy
      obtain ⟨s', hsi, l, hTs, hLs⟩ := paired_getL hall hti
      have hok' := hokA s' (List.mem_of_getElem? hsi)
      walk_at "st"
      refine ⟨_, _, rfl, SqT.of (sm _ _ hTs), rfl, _, _, rfl, _, _, rfl, rfl, ?_⟩
      walk_at "st"
      refine ⟨⟨_, SqL.of (sm _ _ hC)⟩, cp_list (xs := ts.map V.ref) (fun j zs H5 => zs = iL ((sts.map fun b => lw ps s' b).take j) ∧ j ≤ sts.length ∧ Same H3 H5 ∧ TabAt H5 us ((waysT ps (hd, ws) sts).take i)) ⟨by simp, Nat.zero_le _, sm, hU⟩ ?_ (szlt (by simp; omega)) ?_ ?_⟩
      · rintro j zs H5 ⟨rfl, hj, sm5, _⟩
        exact ⟨SqL.of (sm5 _ _ hC), by simp [iL]; omega⟩
      · rintro j y zs H5 hy ⟨rfl, hj, sm5, hU5⟩
        rw [List.getElem?_map] at hy
        obtain ⟨t', htj, rfl⟩ := Option.map_eq_some_iff.mp hy
        obtain ⟨s2', hsj, l', hTs', hLs'⟩ := paired_getL hT htj
        have hjl : j < sts.length := (List.getElem?_eq_some_iff.mp hsj).1
        walk_at "st"
        refine ⟨_, _, rfl, SqT.of (sm5 _ _ hTs'), rfl, _, _, rfl, _, _, rfl, rfl, ?_⟩
        walk_at "st"
        refine ⟨a, l, l', ps, s'.2, s2'.2, s'.1, s2'.1, rfl, sm5 _ _ hA, sm5 _ _ hLs, sm5 _ _ hLs', ht, hok', hok _ (List.mem_of_getElem? hsj), fun H6 s6 => ?_⟩
        refine ⟨?_, by omega, sm5.trans s6, hU5.more s6⟩
        rw [take_snoc_get (show (sts.map fun b => lw ps s' b)[j]? = some (lw ps s' s2') by rw [List.getElem?_map, hsj]; rfl)]
        simp [iL, lw]
      · rintro l6 zs H5 ⟨rfl, hj, sm5, hU5⟩ hl6
        rw [List.take_of_length_le (by simp; omega)]
        have s6 := same_upd (o := .lst (iL (sts.map fun b => lw ps s' b))) hl6
        refine ⟨us ++ [l6], by simp, by simp; omega, sm5.trans s6, ?_⟩
        rw [take_snoc_get (show (waysT ps (hd, ws) sts)[i]? = some (sts.map fun b => lw ps s' b) by unfold waysT; rw [List.getElem?_map, hsi]; rfl)]
        exact Paired.snoc (TabAt.more hU5 s6) upd_same
    · rintro l4 ys H4 ⟨us, rfl, hul, sm, hU⟩ hl4
      rw [List.take_of_length_le (by simp [waysT]; omega)] at hU
      have s5 := same_upd (o := .lst (us.map V.ref)) hl4
      exact k l4 us _ (S3.trans (sm.trans s5)) upd_same (hU.more s5)

--SPLIT
/-- the least ways by number, the last row found by -1 -/
def TabD (us : List Addr) (H : Hp) (n : Nat) (D : Int → Int → Int) : Prop := us.length = n + 1 ∧ ∀ (i : Nat) (u : Addr), us[i]? = some u → ∃ r : List Int, H u = some (.lst (iL r)) ∧ ∀ x : Nat, x < n → r[x]? = some (D (if i = n then -1 else (i : Int)) x)
theorem TabD.more {us : List Addr} {H H' : Hp} {n : Nat} {D : Int → Int → Int} (h : TabD us H n D) (s : Same H H') : TabD us H' n D := ⟨h.1, fun i u e => by
  obtain ⟨r, h1, h2⟩ := h.2 i u e
  exact ⟨r, s _ _ h1, h2⟩⟩
def spBest (m : Nat) : Sp := fun vs H Q _ => ∃ (a b : Addr) (us : List Addr) (n : Nat) (D : Int → Int → Int) (nums : List Int) (last : Int), vs = [.ref a, .int last, .ref b] ∧ H a = some (.lst (us.map V.ref)) ∧ TabD us H n D ∧ H b = some (.lst (iL nums)) ∧ nums.length < m ∧ nums.length ≤ 1000 ∧ nums.Nodup ∧ (∀ x ∈ nums, 0 ≤ x ∧ x < n) ∧ (last = -1 ∨ (0 ≤ last ∧ last < n)) ∧
  ∀ (t l : Addr) (p : Int × List Int) (H' : Hp), Same H H' → H' t = some (.tup [.int p.1, .ref l]) → H' l = some (.lst (iL p.2)) → IsBest D last nums p → Q (.ref t) H'
theorem ok_best_step (T : Txt mg) (D : Def K mg "best_from" s_best_from) {m : Nat} (C_best_from : Callee P w K mg base "best_from" (m + 1) (spBest m)) : Callee P w K mg base "best_from" (m + 2) (spBest (m + 1)) := by
  refine D.ok sc_best_from bd_best_from (fun vs H Q E h => ?len) (fun f cdv A outer s H vs Q E hr h => ?body)
  case len => obtain ⟨a, b, us, n, D, nums, last, rfl, _⟩ := h; rfl
  case body =>
    obtain ⟨a, b, us, n, D, nums, last, rfl, hA, hT, hB, hm, hl, nd, hx, hla, k⟩ := h
    have hu := hr.units
    refine ⟨_, (pss_cons (ps_if (pt_not (pt_truthK K (pv 2)))
 (pss_one (ps_ret (pe_tup (pa_cons pe_int (pa_cons (pe_lst pa_nil) pa_nil)))))
 pss_nil)
 (pss_cons (ps_set (i := 3) sc_best_from.nd rfl (Or.inl rfl) (pe_lst pa_nil))
 (pss_cons (ps_for PassesOwn.never rfl (pi_listK K (pv 2)) (pg_name (i := 4) sc_best_from.nd rfl (Or.inr rfl))
 (pss_cons (ps_asg (pe_callN C_best_from (hr.mono (by omega)) (by rfl) (pa_cons (pv 0) (pa_cons (pv 4) (pa_cons (by exact pe_comp (N := ["other", "number"]) (fr := [none, some 4]) ⟨by rfl, by decide +kernel, by decide +kernel, (show ∀ y ∈ (_ : List (Str × NameKind)), y.2 = NameKind.free → (defScope s_best_from).names.lookup y.1 = some .cell ∨ (defScope s_best_from).names.lookup y.1 = some .free by decide +kernel), (fr_none (fr_some (by rfl) (by first | exact Or.inl rfl | exact Or.inr rfl) (by rfl) fr_nil))⟩ (by rfl) (pi_listK K (pv 2)) (fun _ _ _ _ => (pg_name (i := 0) (show List.Nodup (["other", "number"] : List Str) by decide) (by rfl) (by first | exact Or.inl rfl | exact Or.inr rfl))) (fun _ _ _ _ => (pifs_one (pt_cmpR (op_neK K hu) (pv 0) (pv 1) (nomark _)))) (fun _ _ _ _ => (pv 0)) (gw_name (by rfl))) pa_nil)))) (pg_tupK K 2 (pgs_cons (pg_name (i := 5) sc_best_from.nd rfl (Or.inl rfl)) (pgs_cons (pg_name (i := 6) sc_best_from.nd rfl (Or.inl rfl)) pgs_nil))))
 (pss_one (ps_expr (pe_bmK K PySem.F.plainAttrs_list PySem.F.slot_list_append PySem.F.type_list_append mt_append (pv 3) (pa_cons (pe_tup (pa_cons (pe_op op_addP (pe_ix (ix_K K) (pe_ix (ix_K K) (pv 0) (pv 1) (by exact fun _ _ => rfl)) (pv 4) (by exact fun _ _ => rfl)) (pv 5)) (pa_cons (pe_op op_addP (pe_lst (pa_cons (pv 4) pa_nil)) (pv 6)) pa_nil))) pa_nil))))))
 (pss_one (ps_ret (pe_callB (call_minPK K hu (by rfl)) (by rfl) T.z_min bt_min (pa_cons (pv 3) pa_nil))))))), ?_⟩
    dsimp only [tSeq, tAsg, gName, tOp, tUn, tTest, tB, tAnd, tOr, tNot, tAndV, tOrV, tNotV, tIf, tIfS, tRet, tRetN, tDrop, tNext, tCons, tNil, tCB, tCall, tMenu, tComp, tComp2, msk, List.zipWith, iZip2, iEnum, tNoIf, tTru, tJoin, cxOf_K, tLst, tTup, tSl, tPart, tNoPart, tBM, tBM0, tChain, tC, tFor_eq, gTup, gCons, gNil, gSub, iList, iRng1, iRng2, iRng3, iTup, iZip3, tWhile, tRev, tFld, sFld, tMeth, tMethS, tMake, tAug, tPar, tNever, ipI, List.append_nil]
    try clear hu
    walk_at "st"
    refine i_truL (SqL.of hB) ?_
    cases nums with
    | nil =>
      rw [show (!!(iL []).isEmpty) = true from rfl]
      walk_at "st"
      intro l1 h1
      have s1 : Same H _ := same_upd (o := .lst []) h1
      have e1 : upd H l1 (.lst []) l1 = some (.lst []) := upd_same
      generalize upd H l1 (.lst []) = H1 at *
      walk_at "st"
      intro t2 h2
      exact k t2 l1 (0, []) _ (s1.trans (same_upd h2)) upd_same (same_upd h2 _ _ e1) .nil
    | cons x0 rest =>
    generalize hnums : x0 :: rest = nums at *
    have hne : nums ≠ [] := by rw [← hnums]; simp
    have hie : (!!(iL nums).isEmpty) = false := by rw [← hnums]; rfl
    rw [hie]
    walk_at "st"
    intro lr h1
    have s1 : Same H _ := same_upd (o := .lst []) h1
    have e1 : upd H lr (.lst []) lr = some (.lst []) := upd_same
    generalize upd H lr (.lst []) = H1 at *
    walk_at "st"
    refine ⟨⟨_, SqL.of (s1 _ _ hB)⟩, lp_ints (ns := nums) (fun i σ H2 => ∃ (u4 u5 u6 : Option V) (ts : List Addr) (ps : List (Int × List Int)), σ = [some (.ref a), some (.int last), some (.ref b), some (.ref lr), u4, u5, u6] ∧ Same H H2 ∧ H2 lr = some (.lst (ts.map V.ref)) ∧ Paired (PairH H2) ts ps ∧ (∀ t ∈ ts, t ≠ lr) ∧ ps.length = i ∧ (∀ (j : Nat) (x : Int), j < i → nums[j]? = some x → ∃ q, IsBest D x (less nums x) q ∧ ps[j]? = some (D last x + q.1, x :: q.2)) ∧ (∀ t ∈ ts, ∀ l, H2 t = some (.tup [.int (0 : Int), .ref l]) → True) ∧ (∀ (j : Nat) (t l : Addr) (v : Int), ts[j]? = some t → H2 t = some (.tup [.int v, .ref l]) → l ≠ lr)) ?_ ?_ ?_ ?_⟩
    · exact ⟨_, _, _, [], [], rfl, s1, e1, .nil, by simp, rfl, by omega, by simp, by simp⟩
    · rintro i σ H2 _ ⟨u4, u5, u6, ts, ps, rfl, sm, _⟩
      exact SqL.of (sm _ _ hB)
    · rintro i x σ H2 hxi ⟨u4, u5, u6, ts, ps, rfl, sm, hR, hP, hne1, hpl, hb, _, hne2⟩
      have hxm := List.mem_of_getElem? hxi
      have hil : i < nums.length := (List.getElem?_eq_some_iff.mp hxi).1
      have htl : ts.length = ps.length := hP.length
      obtain ⟨x0, x1⟩ := hx x hxm
      walk_at "st"
      refine ⟨⟨_, SqL.of (sm _ _ hB)⟩, cp_list (xs := iL nums) (fun j ys H3 => ys = iL (less (nums.take j) x) ∧ j ≤ nums.length ∧ H2 = H3) ⟨rfl, Nat.zero_le _, rfl⟩ ?_ (szlt (by simp [iL]; omega)) ?_ ?_⟩
      · rintro j ys H3 ⟨rfl, hj, rfl⟩
        refine ⟨SqL.of (sm _ _ hB), ?_⟩
        have : (less (nums.take j) x).length ≤ (nums.take j).length := List.length_filter_le _ _
        simp [iL]
        rw [List.length_take] at this
        omega
      · rintro j y ys H3 hy ⟨rfl, hj, rfl⟩
        rw [List.getElem?_map] at hy
        obtain ⟨z, hz, rfl⟩ := Option.map_eq_some_iff.mp hy
        have hjl : j < nums.length := (List.getElem?_eq_some_iff.mp hz).1
        have hsn : less (nums.take (j + 1)) x = less (nums.take j) x ++ if z = x then [] else [z] := by
          unfold less
          rw [take_snoc_get hz, List.filter_append]
          by_cases q : z = x <;> simp [q]
        walk_at "st"
        refine i_ifb (fun g => ?_) (fun g => ?_)
        · have g' : ¬ z = x := by simpa using g
          walk_at "st"
          refine ⟨?_, by omega, rfl⟩
          rw [hsn, if_neg g']
          simp [iL]
        · have g' : z = x := by simpa using g
          refine ⟨?_, by omega, rfl⟩
          rw [hsn, if_pos g', List.append_nil]
      · rintro l3 ys H3 ⟨rfl, hj, rfl⟩ h3
        rw [List.take_of_length_le (by simp [iL])]
        have s3 : Same H2 _ := same_upd (o := .lst (iL (less nums x))) h3
        have e3 : upd H2 l3 (.lst (iL (less nums x))) l3 = some (.lst (iL (less nums x))) := upd_same
        generalize upd H2 l3 (.lst (iL (less nums x))) = H3 at *
        have S3 := sm.trans s3
        have hll := less_length nd hxm
        refine ⟨a, l3, us, n, D, less nums x, x, rfl, S3 _ _ hA, hT.more S3, e3, by omega, by omega, nd.filter _, fun y hy => hx y (List.mem_filter.mp hy).1, .inr ⟨x0, x1⟩, fun t4 l4 p H4 s4 h4 hl4 hbest => ?_⟩
        have S4 := S3.trans s4
        have hR4 := s4 _ _ (s3 _ _ hR)
        have hP4 : Paired (PairH H4) ts ps := Paired.mapP hP fun _ _ e => PairH.more e (s3.trans s4)
        walk_at "st"
        refine ⟨_, _, rfl, SqT.of h4, rfl, _, _, rfl, _, _, rfl, rfl, ?_⟩
        walk_at "st"
        refine ⟨.inl ⟨rfl, _, SqL.of hR4⟩, ?_⟩
        obtain ⟨ui, hui⟩ : ∃ ui : Nat, ui < n + 1 ∧ (if ui = n then (-1 : Int) else (ui : Int)) = last ∧ (last = -1 → ui = n) ∧ (last ≠ -1 → last.toNat = ui) := by
          rcases hla with z | ⟨z1, z2⟩
          · exact ⟨n, by omega, by rw [if_pos rfl, z], fun _ => rfl, fun q => absurd z q⟩
          · exact ⟨last.toNat, by omega, by rw [if_neg (by omega)]; omega, fun q => by omega, fun _ => rfl⟩
        obtain ⟨g1, g2, g3, g4⟩ := hui
        obtain ⟨u, hu'⟩ : ∃ u, us[ui]? = some u := ⟨_, List.getElem?_eq_getElem (by rw [hT.1]; exact g1)⟩
        obtain ⟨r, hr1, hr2⟩ := hT.2 ui u hu'
        have hrx := hr2 x.toNat (by omega)
        rw [g2, show ((x.toNat : Nat) : Int) = x by omega] at hrx
        have ix : ∀ {Q' : VK}, Q' (.ref u) H4 → rIxP K (.ref a) (.int last) H4 Q' := fun q => by
          by_cases z : last = -1
          · rw [z]
            have := g3 z
            refine i_ixNeg (SqL.of (S4 _ _ hA)) (by decide) (by simp [hT.1]; omega) (v := .ref u) ?_ q
            rw [List.getElem?_map, List.length_map, hT.1, show ((-1 : Int) + ((n + 1 : Nat) : Int)).toNat = n by omega, ← this, hu']
            rfl
          · exact i_ixN (SqL.of (S4 _ _ hA)) (by omega) (v := .ref u) (by rw [List.getElem?_map, g4 z, hu']; rfl) q
        walk_at "st"
        refine ix ?_
        walk_at "st"
        refine i_ixN (SqL.of (S4 _ _ hr1)) x0 (v := .int (D last x)) (by rw [List.getElem?_map, hrx]; rfl) ?_
        walk_at "st"
        intro l5 h5
        have s5 : Same H4 _ := same_upd (o := .lst [.int x]) h5
        have e5 : upd H4 l5 (.lst [.int x]) l5 = some (.lst [.int x]) := upd_same
        generalize upd H4 l5 (.lst [.int x]) = H5 at *
        have hpl2 : p.2.length ≤ 1000 := by rw [hbest.1.length_eq]; omega
        walk_at "st"
        refine i_addL e5 (s5 _ _ hl4) (szl (by simp [iL]; omega)) (fun l6 h6 => ?_)
        have s6 : Same H5 _ := same_upd (o := .lst ([V.int x] ++ iL p.2)) h6
        have e6 : upd H5 l6 (.lst ([V.int x] ++ iL p.2)) l6 = some (.lst (iL (x :: p.2))) := upd_same
        generalize upd H5 l6 (.lst ([V.int x] ++ iL p.2)) = H6 at *
        walk_at "st"
        intro t7 h7
        have s7 : Same H6 _ := same_upd (o := .tup [.int (D last x + p.1), .ref l6]) h7
        have e7 : upd H6 t7 (.tup [.int (D last x + p.1), .ref l6]) t7 = some (.tup [.int (D last x + p.1), .ref l6]) := upd_same
        generalize upd H6 t7 (.tup [.int (D last x + p.1), .ref l6]) = H7 at *
        have S7 := s5.trans (s6.trans s7)
        have hR7 := S7 _ _ hR4
        have n6 : l6 ≠ lr := fun z => by rw [z, s5 _ _ hR4] at h6; cases h6
        have n7 : t7 ≠ lr := fun z => by rw [z, s6 _ _ (s5 _ _ hR4)] at h7; cases h7
        refine i_app hR7 (szlt (by simp; omega)) ?_
        rw [show (ts.map V.ref ++ [V.ref t7]) = (ts ++ [t7]).map V.ref by simp]
        have up : ∀ b o, b ≠ lr → H7 b = some o → upd H7 lr (.lst ((ts ++ [t7]).map V.ref)) b = some o := fun b o hb' e => by rw [upd_ne hb']; exact e
        have hP7 : Paired (PairH H7) ts ps := Paired.mapP hP4 fun _ _ e => PairH.more e S7
        have nl7 : ∀ (j : Nat) (t l : Addr) (v : Int), ts[j]? = some t → H7 t = some (.tup [.int v, .ref l]) → l ≠ lr := fun j t l v z1 z2 => by
          obtain ⟨q, hq, l', f1, f2⟩ := paired_getL hP z1
          have f1' := S7 _ _ (s4 _ _ (s3 _ _ f1))
          rw [z2] at f1'
          cases f1'
          exact hne2 j t l _ z1 f1
        refine ⟨_, _, _, ts ++ [t7], ps ++ [(D last x + p.1, x :: p.2)], rfl, fun b o z => ?_, upd_same, ?_, fun t hm' => ?_, by simp; omega, fun j y hj hy => ?_, fun _ _ _ _ => trivial, fun j t l v e1 e2 => ?_⟩
        · have hb' : b ≠ lr := ne_of_none z h1
          exact up b o hb' (S7 _ _ (S4 _ _ z))
        · refine Paired.snoc ?_ ⟨l6, up _ _ n7 e7, up _ _ n6 (s7 _ _ e6)⟩
          have go : ∀ {as : List Addr} {bs : List (Int × List Int)}, Paired (PairH H7) as bs → (∀ t ∈ as, t ≠ lr) → (∀ t ∈ as, ∀ l v, H7 t = some (.tup [.int v, .ref l]) → l ≠ lr) → Paired (PairH (upd H7 lr (.lst ((ts ++ [t7]).map V.ref)))) as bs := by
            intro as bs P
            induction P with
            | nil => intro _ _; exact .nil
            | cons r _ ih =>
              intro z1 z2
              obtain ⟨l, f1, f2⟩ := r
              exact .cons ⟨l, up _ _ (z1 _ List.mem_cons_self) f1, up _ _ (z2 _ List.mem_cons_self l _ f1) f2⟩ (ih (fun t ht => z1 t (List.mem_cons_of_mem _ ht)) (fun t ht => z2 t (List.mem_cons_of_mem _ ht)))
          exact go hP7 hne1 fun t ht l v e => by
            obtain ⟨j, hj, rfl⟩ := List.getElem_of_mem ht
            exact nl7 j _ l v (List.getElem?_eq_getElem hj) e
        · rcases List.mem_append.mp hm' with q | q
          · exact hne1 t q
          · simp at q; subst q; exact n7
        · by_cases q : j < i
          · obtain ⟨z, z1, z2⟩ := hb j y q hy
            exact ⟨z, z1, by rw [List.getElem?_append_left (by omega)]; exact z2⟩
          · obtain rfl : j = i := by omega
            rw [hxi] at hy
            cases hy
            exact ⟨p, hbest, by rw [List.getElem?_append_right (by omega), hpl, Nat.sub_self]; rfl⟩
        · by_cases q : j < ts.length
          · rw [List.getElem?_append_left q] at e1
            have : t ≠ lr := hne1 t (List.mem_of_getElem? e1)
            rw [upd_ne this] at e2
            exact nl7 j t l v e1 e2
          · rw [List.getElem?_append_right (by omega)] at e1
            have hj0 : j - ts.length = 0 := by
              have := (List.getElem?_eq_some_iff.mp e1).1
              simp at this
              omega
            rw [hj0] at e1
            cases e1
            rw [upd_ne n7, e7] at e2
            cases e2
            exact n6
    · rintro σ H2 ⟨u4, u5, u6, ts, ps, rfl, sm, hR, hP, hne1, hpl, hb, _, hne2⟩
      walk_at "st"
      refine ⟨lr, ts, ps, rfl, hR, hP, by rw [hpl]; exact List.length_pos_iff.mpr hne, fun i t q hti hqi hmin => ?_⟩
      obtain ⟨q', hq', l, f1, f2⟩ := paired_getL hP hti
      rw [hqi] at hq'
      cases hq'
      refine k t l q _ sm f1 f2 (IsBest.step (ps := ps) nd (fun p hp => ?_) (fun x hxm => ?_) (List.mem_of_getElem? hqi) hmin hne)
      · obtain ⟨j, hj, rfl⟩ := List.getElem_of_mem hp
        have hxj := List.getElem?_eq_getElem (show j < nums.length by omega)
        obtain ⟨z, z1, z2⟩ := hb j _ (by omega) hxj
        rw [List.getElem?_eq_getElem hj] at z2
        exact ⟨_, List.getElem_mem _, z, z1, Option.some.inj z2⟩
      · obtain ⟨j, hj, rfl⟩ := List.getElem_of_mem hxm
        obtain ⟨z, z1, z2⟩ := hb j _ hj (List.getElem?_eq_getElem hj)
        exact ⟨z, z1, List.mem_of_getElem? z2⟩
theorem ok_best_all (T : Txt mg) (D : Def K mg "best_from" s_best_from) : ∀ m, Callee P w K mg base "best_from" (m + 1) (spBest m)
  | 0 => D.ok (k := 0) (sp := spBest 0) sc_best_from bd_best_from (fun vs H Q E h => by obtain ⟨_, _, _, _, _, _, _, _, _, _, _, h, _⟩ := h; exact absurd h (Nat.not_lt_zero _)) (fun f cdv A outer s H vs Q E hr h => by obtain ⟨_, _, _, _, _, _, _, _, _, _, _, h, _⟩ := h; exact absurd h (Nat.not_lt_zero _))
  | m + 1 => ok_best_step T D (ok_best_all T D m)
theorem ok_best_from (T : Txt mg) (D : Def K mg "best_from" s_best_from) : Callee P w K mg base "best_from" 8 (spBest 7) := ok_best_all T D 7

--SPLIT
theorem rsum_get (ps : List Int) : ∀ (sts : List Std) (a : Std), rsum ps a sts = (((a :: sts).zip sts).map fun p => lw ps p.1 p.2).sum
  | [], _ => rfl
  | b :: r, a => by
    simp only [rsum, List.zip_cons_cons, List.map_cons, List.sum_cons]
    rw [rsum_get ps r b]
def spRound : Sp := fun vs H Q _ => ∃ (a b c : Addr) (ps ws : List Int) (hd : Int) (ts : List Addr) (sts : List Std), vs = [.ref a, .int hd, .ref b, .ref c] ∧ H a = some (.lst (iL ps)) ∧ H b = some (.lst (iL ws)) ∧ H c = some (.lst (ts.map V.ref)) ∧ StsAt H ts sts ∧ sts.length ≤ 1000 ∧ isTr ps ∧ stand ps hd ws ∧ (∀ s ∈ sts, okSt ps s) ∧ ∀ H', Same H H' → Q (.int (rsum ps (hd, ws) sts)) H'
theorem ok_round_way (T : Txt mg) (D : Def K mg "round_way" s_round_way) (C_refuse_no_round : Callee P w K mg base "refuse_no_round" 5 spRefRound) (C_least_of : Callee P w K mg base "least_of" 9 spLeastOf) : Callee P w K mg base "round_way" 10 spRound := by
  refine D.ok sc_round_way bd_round_way (fun vs H Q E h => ?len) (fun f cdv A outer s H vs Q E hr h => ?body)
  case len => obtain ⟨a, b, c, ps, ws, hd, ts, sts, rfl, _⟩ := h; rfl
  case body =>
    obtain ⟨a, b, c, ps, ws, hd, ts, sts, rfl, hA, hB, hC, hT, hl, ht, hs, hok, k⟩ := h
    have hu := hr.units
    have htl : ts.length = sts.length := hT.length
    refine ⟨_, (pss_cons (ps_expr (pe_callN C_refuse_no_round (hr.mono (by decide)) (by rfl) (pa_cons (pv 0) (pa_cons (pv 1) (pa_cons (pv 2) (pa_cons (pv 3) pa_nil))))))
 (pss_cons (ps_set (i := 4) sc_round_way.nd rfl (Or.inl rfl) (pe_listZip (by rfl) (by rfl) (by rfl) T.z_list (by rfl) T.z_zip (pa_cons (pe_op op_addP (pe_lst (pa_cons (pe_tup (pa_cons (pv 1) (pa_cons (pv 2) pa_nil))) pa_nil)) (pv 3)) (pa_cons (pv 3) pa_nil))))
 (pss_one (ps_ret (pe_callB (call_sumK K) (by rfl) T.z_sum bt_sum (pa_cons (by exact pe_comp (N := ["at", "places", "end", "goal", "plays"]) (fr := [none, none, none, none, some 0]) ⟨by rfl, by decide +kernel, by decide +kernel, (show ∀ y ∈ (_ : List (Str × NameKind)), y.2 = NameKind.free → (defScope s_round_way).names.lookup y.1 = some .cell ∨ (defScope s_round_way).names.lookup y.1 = some .free by decide +kernel), (fr_none (fr_none (fr_none (fr_none (fr_some (by rfl) (by first | exact Or.inl rfl | exact Or.inr rfl) (by rfl) fr_nil)))))⟩ (by rfl) (pi_listK K (pv 4)) (fun _ _ _ _ => (pg_tupK K 2 (pgs_cons (pg_tupK K 2 (pgs_cons (pg_name (i := 0) (show List.Nodup (["at", "places", "end", "goal", "plays"] : List Str) by decide) (by rfl) (by first | exact Or.inl rfl | exact Or.inr rfl)) (pgs_cons (pg_name (i := 1) (show List.Nodup (["at", "places", "end", "goal", "plays"] : List Str) by decide) (by rfl) (by first | exact Or.inl rfl | exact Or.inr rfl)) pgs_nil))) (pgs_cons (pg_tupK K 2 (pgs_cons (pg_name (i := 2) (show List.Nodup (["at", "places", "end", "goal", "plays"] : List Str) by decide) (by rfl) (by first | exact Or.inl rfl | exact Or.inr rfl)) (pgs_cons (pg_name (i := 3) (show List.Nodup (["at", "places", "end", "goal", "plays"] : List Str) by decide) (by rfl) (by first | exact Or.inl rfl | exact Or.inr rfl)) pgs_nil))) pgs_nil)))) (fun _ _ _ _ => pifs_nil) (fun _ _ _ _ => (pe_callN C_least_of (hr.mono (by decide)) (by rfl) (pa_cons (pv 4) (pa_cons (pv 0) (pa_cons (pv 1) (pa_cons (pv 2) (pa_cons (pv 3) pa_nil))))))) (gw_tup (gws_cons (gw_tup (gws_cons (gw_name (by rfl)) (gws_cons (gw_name (by rfl)) gws_nil))) (gws_cons (gw_tup (gws_cons (gw_name (by rfl)) (gws_cons (gw_name (by rfl)) gws_nil))) gws_nil)))) pa_nil)))))), ?_⟩
    dsimp only [tSeq, tAsg, gName, tOp, tUn, tTest, tB, tAnd, tOr, tNot, tAndV, tOrV, tNotV, tIf, tIfS, tRet, tRetN, tDrop, tNext, tCons, tNil, tCB, tCall, tMenu, tComp, tComp2, msk, List.zipWith, iZip2, iEnum, tNoIf, tTru, tJoin, cxOf_K, tLst, tTup, tSl, tPart, tNoPart, tBM, tBM0, tChain, tC, tFor_eq, gTup, gCons, gNil, gSub, iList, iRng1, iRng2, iRng3, iTup, iZip3, tWhile, tRev, tFld, sFld, tMeth, tMethS, tMake, tAug, tPar, tNever, ipI, List.append_nil]
    try clear hu
    walk_at "st"
    refine ⟨a, b, c, ps, ws, hd, ts, sts, rfl, hA, hB, hC, hT, ht, hs, hok, fun H0 s0 => ?_⟩
    replace hA := s0 _ _ hA
    replace hB := s0 _ _ hB
    replace hC := s0 _ _ hC
    replace hT := stsMore hT s0
    walk_at "st"
    intro t1 h1
    have s1 : Same H0 _ := same_upd (o := .tup [.int hd, .ref b]) h1
    have e1 : upd H0 t1 (.tup [.int hd, .ref b]) t1 = some (.tup [.int hd, .ref b]) := upd_same
    generalize upd H0 t1 (.tup [.int hd, .ref b]) = H1 at *
    walk_at "st"
    intro l2 h2
    have s2 : Same H1 _ := same_upd (o := .lst [.ref t1]) h2
    have e2 : upd H1 l2 (.lst [.ref t1]) l2 = some (.lst [.ref t1]) := upd_same
    generalize upd H1 l2 (.lst [.ref t1]) = H2 at *
    walk_at "st"
    refine i_addL e2 (s2 _ _ (s1 _ _ hC)) (szl (by simp; omega)) (fun l3 h3 => ?_)
    have ea : [V.ref t1] ++ ts.map V.ref = (t1 :: ts).map V.ref := by simp
    rw [ea]
    have s3 : Same H2 _ := same_upd (o := .lst ((t1 :: ts).map V.ref)) h3
    have e3 : upd H2 l3 (.lst ((t1 :: ts).map V.ref)) l3 = some (.lst ((t1 :: ts).map V.ref)) := upd_same
    generalize upd H2 l3 (.lst ((t1 :: ts).map V.ref)) = H3 at *
    have S3 := s1.trans (s2.trans s3)
    have hall : StsAt H3 (t1 :: ts) ((hd, ws) :: sts) := .cons ⟨b, s3 _ _ (s2 _ _ e1), S3 _ _ hB⟩ (stsMore hT S3)
    have hokA : ∀ s ∈ (hd, ws) :: sts, okSt ps s := fun s hs' => by
      rcases List.mem_cons.mp hs' with q | q
      · subst q; exact hs
      · exact hok s q
    walk_at "st"
    refine ⟨l3, c, _, _, rfl, SqL.of e3, SqL.of (S3 _ _ hC), fun l4 qs H4 s4 _ e4 hQ _ _ => ?_⟩
    have hAll4 := stsMore hall s4
    have hT4 := stsMore (stsMore hT S3) s4
    have hA4 := s4 _ _ (S3 _ _ hA)
    have S4 := s0.trans (S3.trans s4)
    have hql : qs.length = sts.length := by
      have := hQ.length
      simp at this
      omega
    have hq : ∀ (i : Nat) (t : Addr), qs[i]? = some t → ∃ (ta tb la lb : Addr) (sa sb : Std), H4 t = some (.tup [.ref ta, .ref tb]) ∧ H4 ta = some (.tup [.int sa.1, .ref la]) ∧ H4 la = some (.lst (iL sa.2)) ∧ H4 tb = some (.tup [.int sb.1, .ref lb]) ∧ H4 lb = some (.lst (iL sb.2)) ∧ okSt ps sa ∧ okSt ps sb ∧ (((hd, ws) :: sts).zip sts)[i]? = some (sa, sb) := fun i t hi => by
      obtain ⟨p, hp, _, hp2⟩ := paired_getL hQ hi
      rw [List.getElem?_zip_eq_some] at hp
      obtain ⟨p1, p2⟩ := hp
      rw [List.getElem?_map] at p1 p2
      obtain ⟨ta, ha, hva⟩ := Option.map_eq_some_iff.mp p1
      obtain ⟨tb, hb, hvb⟩ := Option.map_eq_some_iff.mp p2
      obtain ⟨sa, ha1, la, ha2, ha3⟩ := paired_getL hAll4 ha
      obtain ⟨sb, hb1, lb, hb2, hb3⟩ := paired_getL hT4 hb
      refine ⟨ta, tb, la, lb, sa, sb, ?_, ha2, ha3, hb2, hb3, hokA sa (List.mem_of_getElem? ha1), hok sb (List.mem_of_getElem? hb1), ?_⟩
      · rw [hp2, ← hva, ← hvb]
      · rw [List.getElem?_zip_eq_some]
        exact ⟨ha1, hb1⟩
    walk_at "st"
    refine ⟨⟨_, SqL.of e4⟩, cp_list (xs := qs.map V.ref) (fun i ys H5 => ys = iL (((((hd, ws) :: sts).zip sts).map fun p => lw ps p.1 p.2).take i) ∧ i ≤ qs.length ∧ Same H4 H5) ⟨by simp, Nat.zero_le _, Same.refl _⟩ ?_ (szlt (by simp; omega)) ?_ ?_⟩
    · rintro i ys H5 ⟨rfl, hi, sm⟩
      exact ⟨SqL.of (sm _ _ e4), by simp [iL]; omega⟩
    · rintro i y ys H5 hy ⟨rfl, hi, sm⟩
      rw [List.getElem?_map] at hy
      obtain ⟨t, hti, rfl⟩ := Option.map_eq_some_iff.mp hy
      have hil : i < qs.length := (List.getElem?_eq_some_iff.mp hti).1
      obtain ⟨ta, tb, la, lb, sa, sb, f1, f2, f3, f4, f5, o1, o2, hz⟩ := hq i t hti
      walk_at "st"
      refine ⟨_, _, rfl, SqT.of (sm _ _ f1), rfl, _, _, rfl, _, _, rfl, SqT.of (sm _ _ f2), rfl, _, _, rfl, _, _, rfl, rfl, _, _, rfl, _, _, rfl, SqT.of (sm _ _ f4), rfl, _, _, rfl, _, _, rfl, rfl, rfl, ?_⟩
      walk_at "st"
      refine ⟨a, la, lb, ps, sa.2, sb.2, sa.1, sb.1, rfl, sm _ _ hA4, sm _ _ f3, sm _ _ f5, ht, o1, o2, fun H6 s6 => ?_⟩
      refine ⟨?_, by omega, sm.trans s6⟩
      rw [take_snoc_get (show ((((hd, ws) :: sts).zip sts).map fun p => lw ps p.1 p.2)[i]? = some (lw ps sa sb) by rw [List.getElem?_map, hz]; rfl)]
      simp [iL, lw]
    · rintro l6 ys H5 ⟨rfl, hi, sm⟩ hl6
      rw [List.take_of_length_le (by simp; omega)]
      refine i_sum (SqL.of upd_same) ?_
      rw [← rsum_get]
      exact k _ (S4.trans (sm.trans (same_upd hl6)))

--SPLIT
theorem ways_tabD {us : List Addr} {H : Hp} {ps : List Int} {start : Std} {sts : List Std} (h : TabAt H us (waysT ps start sts)) : TabD us H sts.length (Dw ps start sts) := by
  refine ⟨by have := h.length; simp [waysT] at this; exact this, fun i u hu => ?_⟩
  obtain ⟨r, hr, hR⟩ := paired_getL h hu
  refine ⟨r, hR, fun x hx => ?_⟩
  unfold waysT at hr
  rw [List.getElem?_map] at hr
  obtain ⟨s', hs', rfl⟩ := Option.map_eq_some_iff.mp hr
  rw [List.getElem?_map, List.getElem?_eq_getElem hx]
  unfold Dw
  rw [stA_get (List.getElem?_eq_getElem hx)]
  have e : stA start sts (if i = sts.length then (-1 : Int) else (i : Int)) = s' := by
    by_cases q : i = sts.length
    · rw [if_pos q]
      rw [q, List.getElem?_append_right (Nat.le_refl _), Nat.sub_self] at hs'
      simp at hs'
      subst hs'
      rfl
    · rw [if_neg q]
      have : i < (sts ++ [start]).length := (List.getElem?_eq_some_iff.mp hs').1
      simp at this
      rw [List.getElem?_append_left (by omega)] at hs'
      exact stA_get hs'
  rw [e]
  rfl
def spBestR : Sp := fun vs H Q _ => ∃ (a b c : Addr) (ps ws : List Int) (hd : Int) (ts : List Addr) (sts : List Std), vs = [.ref a, .int hd, .ref b, .ref c] ∧ H a = some (.lst (iL ps)) ∧ H b = some (.lst (iL ws)) ∧ H c = some (.lst (ts.map V.ref)) ∧ StsAt H ts sts ∧ sts.length ≤ 6 ∧ isTr ps ∧ stand ps hd ws ∧ (∀ s ∈ sts, okSt ps s) ∧
  (∀ (t l : Addr) (p : Int × List Int) (H' : Hp), Same H H' → H' t = some (.tup [.ref l, .int p.1]) → H' l = some (.lst (iL p.2)) → IsBest (Dw ps (hd, ws) sts) (-1) (upto sts.length) p → Q (.ref t) H')
theorem ok_best_round (T : Txt mg) (D : Def K mg "best_round" s_best_round) (C_refuse_no_round : Callee P w K mg base "refuse_no_round" 5 spRefRound) (C_ways_between : Callee P w K mg base "ways_between" 10 spWays) (C_best_from : Callee P w K mg base "best_from" 8 (spBest 7)) : Callee P w K mg base "best_round" 11 spBestR := by
  refine D.ok sc_best_round bd_best_round (fun vs H Q E h => ?len) (fun f cdv A outer s H vs Q E hr h => ?body)
  case len => obtain ⟨a, b, c, ps, ws, hd, ts, sts, rfl, _⟩ := h; rfl
  case body =>
    obtain ⟨a, b, c, ps, ws, hd, ts, sts, rfl, hA, hB, hC, hT, hl, ht, hs, hok, k⟩ := h
    have hu := hr.units
    have htl : ts.length = sts.length := hT.length
    refine ⟨_, (pss_cons (ps_expr (pe_callN C_refuse_no_round (hr.mono (by decide)) (by rfl) (pa_cons (pv 0) (pa_cons (pv 1) (pa_cons (pv 2) (pa_cons (pv 3) pa_nil))))))
 (pss_cons (ps_set (i := 4) sc_best_round.nd rfl (Or.inl rfl) (pe_callN C_ways_between (hr.mono (by decide)) (by rfl) (pa_cons (pv 0) (pa_cons (pv 1) (pa_cons (pv 2) (pa_cons (pv 3) pa_nil))))))
 (pss_cons (ps_asg (pe_callN C_best_from (hr.mono (by decide)) (by rfl) (pa_cons (pv 4) (pa_cons (pe_negK (r := -1) (by decide)) (pa_cons (pe_listRng (by rfl) (by rfl) T.z_list (by rfl) T.z_range (pa_cons (pe_callB (call_lenK K) (by rfl) T.z_len bt_len (pa_cons (pv 3) pa_nil)) pa_nil)) pa_nil)))) (pg_tupK K 2 (pgs_cons (pg_name (i := 5) sc_best_round.nd rfl (Or.inl rfl)) (pgs_cons (pg_name (i := 6) sc_best_round.nd rfl (Or.inl rfl)) pgs_nil))))
 (pss_one (ps_ret (pe_tup (pa_cons (pv 6) (pa_cons (pv 5) pa_nil)))))))), ?_⟩
    dsimp only [tSeq, tAsg, gName, tOp, tUn, tTest, tB, tAnd, tOr, tNot, tAndV, tOrV, tNotV, tIf, tIfS, tRet, tRetN, tDrop, tNext, tCons, tNil, tCB, tCall, tMenu, tComp, tComp2, msk, List.zipWith, iZip2, iEnum, tNoIf, tTru, tJoin, cxOf_K, tLst, tTup, tSl, tPart, tNoPart, tBM, tBM0, tChain, tC, tFor_eq, gTup, gCons, gNil, gSub, iList, iRng1, iRng2, iRng3, iTup, iZip3, tWhile, tRev, tFld, sFld, tMeth, tMethS, tMake, tAug, tPar, tNever, ipI, List.append_nil]
    try clear hu
    walk_at "st"
    refine ⟨a, b, c, ps, ws, hd, ts, sts, rfl, hA, hB, hC, hT, ht, hs, hok, fun H0 s0 => ?_⟩
    walk_at "st"
    refine ⟨a, b, c, ps, ws, hd, ts, sts, rfl, s0 _ _ hA, s0 _ _ hB, s0 _ _ hC, stsMore hT s0, ht, hs, hok, by omega, fun lw uw H1 s1 e1 hT1 => ?_⟩
    walk_at "st"
    refine i_len (SqL.of (s1 _ _ (s0 _ _ hC))) ?_
    walk_at "st"
    refine ⟨sts.length, by simp [htl], by omega, fun l2 h2 => ?_⟩
    have s2 : Same H1 _ := same_upd (o := .lst (iL ((List.range sts.length).map fun i : Nat => (i : Int)))) h2
    have e2 : upd H1 l2 (.lst (iL ((List.range sts.length).map fun i : Nat => (i : Int)))) l2 = some (.lst (iL (upto sts.length))) := upd_same
    generalize upd H1 l2 (.lst (iL ((List.range sts.length).map fun i : Nat => (i : Int)))) = H2 at *
    walk_at "st"
    refine ⟨lw, l2, uw, sts.length, Dw ps (hd, ws) sts, upto sts.length, -1, rfl, s2 _ _ e1, (ways_tabD hT1).more s2, e2, by rw [upto_length]; omega, by rw [upto_length]; omega, upto_nodup _, fun x hx => mem_upto.mp hx, .inl rfl, fun t3 l3 p H3 s3 h3 hl3 hbest => ?_⟩
    walk_at "st"
    refine ⟨_, _, rfl, SqT.of h3, rfl, _, _, rfl, _, _, rfl, rfl, ?_⟩
    walk_at "st"
    intro t4 h4
    exact k t4 l3 p _ (s0.trans (s1.trans (s2.trans (s3.trans (same_upd h4))))) upd_same (same_upd h4 _ _ hl3) hbest

--SPLIT
theorem putF_le (f : Str) (v : V) : ∀ fs : List (Str × V), (putF f v fs).length ≤ fs.length + 1
  | [] => by simp [putF]
  | (g, x) :: r => by
    unfold putF
    split
    · simp
    · have := putF_le f v r
      simp
      omega
def wfl (lp ls : Addr) : List (Str × V) := putF "states" (.ref ls) (putF "plays" (.ref lp) [])
theorem wfl_states (lp ls : Addr) : (wfl lp ls).lookup ("states" : Str) = some (.ref ls) := by unfold wfl; rw [lookup_putF, if_pos rfl]
theorem wfl_plays (lp ls : Addr) : (wfl lp ls).lookup ("plays" : Str) = some (.ref lp) := by unfold wfl; rw [lookup_putF, if_neg (by decide +kernel), lookup_putF, if_pos rfl]
theorem wfl_no (lp ls : Addr) {m : Str} (h1 : ¬ m = "states") (h2 : ¬ m = "plays") : (wfl lp ls).lookup m = none := by
  unfold wfl
  rw [lookup_putF, if_neg h1, lookup_putF, if_neg h2]
  rfl
/-- all but one object stays -/
def But (q : Addr) (H H' : Hp) : Prop := ∀ b o, H b = some o → b ≠ q → H' b = some o
/-- a state of a walker: (handle, wheels, ways) -/
def StAt (H : Hp) (t : Addr) (s : WSt) : Prop := ∃ lw lg, H t = some (.tup [.int s.1, .ref lw, .ref lg]) ∧ H lw = some (.lst (iL s.2.1)) ∧ H lg = some (.lst (iL s.2.2))
theorem ints_refs {xs : List Int} {us : List Addr} (h : iL xs = us.map V.ref) : us = [] := by
  cases us with
  | nil => rfl
  | cons u us => cases xs <;> simp [iL] at h
theorem ne_ints {H : Hp} {a q : Addr} {xs : List Int} {us : List Addr} (ha : H a = some (.lst (iL xs))) (hq : H q = some (.lst (us.map V.ref))) (hu : us ≠ []) : a ≠ q := fun z => by
  subst z
  rw [ha] at hq
  exact hu (ints_refs (HO.lst.inj (Option.some.inj hq)))
theorem StAt.but {H H' : Hp} {t q : Addr} {s : WSt} {us : List Addr} (h : StAt H t s) (b : But q H H') (hq : H q = some (.lst (us.map V.ref))) (hu : us ≠ []) : StAt H' t s := by
  obtain ⟨lw, lg, h1, h2, h3⟩ := h
  refine ⟨lw, lg, b _ _ h1 ?_, b _ _ h2 (ne_ints h2 hq hu), b _ _ h3 (ne_ints h3 hq hu)⟩
  intro z
  subst z
  rw [h1] at hq
  cases hq
theorem StAt.more {H H' : Hp} {t : Addr} {s : WSt} (h : StAt H t s) (b : Same H H') : StAt H' t s := by
  obtain ⟨lw, lg, h1, h2, h3⟩ := h
  exact ⟨lw, lg, b _ _ h1, b _ _ h2, b _ _ h3⟩
structure WkAt (C : Addr) (H : Hp) (p lp ls : Addr) (ts : List Addr) (ps : List Int) (sts : List WSt) : Prop where
  ob : ∃ dx, H p = some (.ins C dx (wfl lp ls))
  pl : H lp = some (.lst (iL ps))
  sl : H ls = some (.lst (ts.map V.ref))
  it : Paired (StAt H) ts sts
theorem WkAt.more {C : Addr} {H H' : Hp} {p lp ls : Addr} {ts : List Addr} {ps : List Int} {sts : List WSt} (W : WkAt C H p lp ls ts ps sts) (s : Same H H') : WkAt C H' p lp ls ts ps sts :=
  ⟨W.ob.elim fun dx e => ⟨dx, s _ _ e⟩, s _ _ W.pl, s _ _ W.sl, Paired.mapP W.it fun _ _ h => h.more s⟩
/-- its list of states set anew -/
theorem WkAt.set {C : Addr} {H H' : Hp} {p lp ls : Addr} {ts ts' : List Addr} {ps : List Int} {sts sts' : List WSt} (W : WkAt C H p lp ls ts ps sts) (hne : ts ≠ []) (b : But ls H H') (h : H' ls = some (.lst (ts'.map V.ref))) (hp : Paired (StAt H') ts' sts') : WkAt C H' p lp ls ts' ps sts' := by
  refine ⟨W.ob.elim fun dx e => ⟨dx, b _ _ e ?_⟩, b _ _ W.pl (ne_ints W.pl W.sl hne), h, hp⟩
  intro z
  have := W.sl
  rw [← z, e] at this
  cases this
theorem paired_snoc {α β : Type} {F : α → β → Prop} : ∀ {as : List α} {bs : List β} {a : α} {b : β}, Paired F as bs → F a b → Paired F (as ++ [a]) (bs ++ [b])
  | _, _, a, b, .nil, h => .cons h .nil
  | _, _, a, b, .cons h t, q => .cons h (paired_snoc t q)
theorem paired_unsnoc {α β : Type} {F : α → β → Prop} : ∀ {as : List α} {bs : List β} {b : β}, Paired F as (bs ++ [b]) → ∃ as' a, as = as' ++ [a] ∧ Paired F as' bs ∧ F a b
  | _, [], b, h => by
    cases h with
    | cons h t => cases t; exact ⟨[], _, rfl, .nil, h⟩
  | _, c :: bs, b, h => by
    cases h with
    | cons h t =>
      obtain ⟨as', a, rfl, q, r⟩ := paired_unsnoc (bs := bs) t
      exact ⟨_ :: as', a, rfl, .cons h q, r⟩

def spFarther (K : PySem.W.Frag) : Sp := fun vs H Q _ => ∃ (a b c : Addr) (ys as ps : List Int), vs = [.ref a, .ref b, .ref c] ∧ SqL K H a (iL ys) ∧ SqL K H b (iL as) ∧ SqL K H c (iL ps) ∧ ys.length ≤ 1000 ∧ ∀ l H', NewI H H' l (fart ys as ps) → Q (.ref l) H'
theorem ok_farther (T : Txt mg) (D : Def K mg "farther" s_farther) : Callee P w K mg base "farther" 1 (spFarther K) := by
  refine D.ok sc_farther bd_farther (fun vs H Q E h => ?len) (fun f cdv A outer s H vs Q E hr h => ?body)
  case len => obtain ⟨a, b, c, ys, as, ps, rfl, _⟩ := h; rfl
  case body =>
    obtain ⟨a, b, c, ys, as, ps, rfl, hA, hB, hC, hl, k⟩ := h
    have hu := hr.units
    refine ⟨_, (pss_one (ps_ret (by exact pe_comp (N := ["way", "at", "place"]) (fr := [none, none, none]) ⟨by rfl, by decide +kernel, by decide +kernel, (show ∀ y ∈ (_ : List (Str × NameKind)), y.2 = NameKind.free → (defScope s_farther).names.lookup y.1 = some .cell ∨ (defScope s_farther).names.lookup y.1 = some .free by decide +kernel), (fr_none (fr_none (fr_none fr_nil)))⟩ (by rfl) (pi_zip3K K (by rfl) T.z_zip (pa_cons (pv 0) (pa_cons (pv 1) (pa_cons (pv 2) pa_nil)))) (fun _ _ _ _ => (pg_tupK K 3 (pgs_cons (pg_name (i := 0) (show List.Nodup (["way", "at", "place"] : List Str) by decide) (by rfl) (by first | exact Or.inl rfl | exact Or.inr rfl)) (pgs_cons (pg_name (i := 1) (show List.Nodup (["way", "at", "place"] : List Str) by decide) (by rfl) (by first | exact Or.inl rfl | exact Or.inr rfl)) (pgs_cons (pg_name (i := 2) (show List.Nodup (["way", "at", "place"] : List Str) by decide) (by rfl) (by first | exact Or.inl rfl | exact Or.inr rfl)) pgs_nil))))) (fun _ _ _ _ => pifs_nil) (fun _ _ _ _ => (pe_op op_addP (pv 0) (pe_callB call_absK (by rfl) T.z_abs bt_abs (pa_cons (pe_op op_sub (pv 2) (pv 1)) pa_nil)))) (gw_tup (gws_cons (gw_name (by rfl)) (gws_cons (gw_name (by rfl)) (gws_cons (gw_name (by rfl)) gws_nil))))))), ?_⟩
    dsimp only [tSeq, tAsg, gName, tOp, tUn, tTest, tB, tAnd, tOr, tNot, tAndV, tOrV, tNotV, tIf, tIfS, tRet, tRetN, tDrop, tNext, tCons, tNil, tCB, tCall, tMenu, tComp, tComp2, msk, List.zipWith, iZip2, iEnum, tNoIf, tTru, tJoin, cxOf_K, tLst, tTup, tSl, tPart, tNoPart, tBM, tBM0, tChain, tC, tFor_eq, gTup, gCons, gNil, gSub, iList, iRng1, iRng2, iRng3, iTup, iZip3, tWhile, tRev, tFld, sFld, tMeth, tMethS, tMake, tAug, tPar, tNever, ipI, List.append_nil]
    try clear hu
    walk_at "st"
    refine ⟨_, _, _, rfl, ⟨_, hA⟩, ⟨_, hB⟩, ⟨_, hC⟩, cp_zip3 (xs := iL ys) (ys := iL as) (ws := iL ps) (fun i zs H4 => zs = iL ((fart ys as ps).take i) ∧ i ≤ (fart ys as ps).length ∧ Same H H4) ⟨by simp, Nat.zero_le _, Same.refl _⟩ ?_ (szlt (by simp [iL]; omega)) ?_ ?_⟩
    · rintro i zs H4 ⟨rfl, hi, sm⟩
      exact ⟨sm.seq hA, sm.seq hB, sm.seq hC, by simp [iL]; omega⟩
    · rintro i x1 y1 z1 t zs H4 hx hy hz ⟨rfl, hi, sm⟩ ht
      rw [List.getElem?_map] at hx hy hz
      obtain ⟨x2, hx2, rfl⟩ := Option.map_eq_some_iff.mp hx
      obtain ⟨y2, hy2, rfl⟩ := Option.map_eq_some_iff.mp hy
      obtain ⟨z2, hz2, rfl⟩ := Option.map_eq_some_iff.mp hz
      walk_at "st"
      refine ⟨_, _, rfl, SqT.of upd_same, rfl, _, _, rfl, _, _, rfl, _, _, rfl, rfl, ?_⟩
      walk_at "st"
      refine ⟨?_, (List.getElem?_eq_some_iff.mp (fart_get ys as ps i hx2 hy2 hz2)).1, sm.trans (same_upd ht)⟩
      rw [fart_take ys as ps i hx2 hy2 hz2]
      simp [iL, ab]
    rintro l zs H4 ⟨rfl, hi, sm⟩ hl2
    rw [List.take_of_length_le (by rw [fart_len]; simp [iL])]
    exact k l _ ⟨sm.free hl2, sm.trans (same_upd hl2), upd_same⟩

def spWInit (C : Addr) : Sp := fun vs H Q _ => ∃ (p dx a b : Addr) (ps ws : List Int) (hd : Int), vs = [.ref p, .ref a, .int hd, .ref b] ∧ H p = some (.ins C dx []) ∧ H a = some (.lst (iL ps)) ∧ H b = some (.lst (iL ws)) ∧ isTr ps ∧ stand ps hd ws ∧
  ∀ lp ls t H', But p H H' → H lp = none → H ls = none → H t = none → WkAt C H' p lp ls [t] ps [(hd, ws, List.replicate ws.length 0)] → (∀ H2, (∀ b o, H' b = some o → (H b = none ∨ b = p) → H2 b = some o) → WkAt C H2 p lp ls [t] ps [(hd, ws, List.replicate ws.length 0)]) → Q .non H'
theorem i_repL {H : Hp} {Q : VK} {l : Addr} {xs : List V} {k : Int} (h : H l = some (.lst xs)) (h0 : 0 ≤ k) (h1 : k < 1000) (hs : xs.length * k.toNat ≤ 100000) (q : ∀ p, H p = none → Q (.ref p) (upd H p (.lst (List.replicate k.toNat xs).flatten))) : rMulP (.ref l) (.int k) H Q :=
  .inr ⟨l, k, xs, rfl, rfl, h, by omega, by omega, szl hs, q⟩
theorem flat_one (n : Nat) (x : Int) : (List.replicate n [V.int x]).flatten = iL (List.replicate n x) := by
  induction n with
  | zero => rfl
  | succ n ih => simp only [List.replicate_succ, List.flatten_cons, ih]; rfl
theorem ok_Walker___init__ (T : Txt mg) (Y : Own K mg) (D : DefM K Y.c_Walker "__init__" "Walker.__init__" s_Walker___init__) (C_refuse_no_stand : Callee P w K mg base "refuse_no_stand" 4 (spRefStand K)) : CalleeM CX0 P w K mg base Y.c_Walker "__init__" 5 (spWInit Y.c_Walker) := by
  refine DefM.ok D sc_Walker___init__ bd_Walker___init__ (fun vs H Q E h => ?len) (fun f cdv A outer s H vs Q E hr h => ?body)
  case len => obtain ⟨p, dx, a, b, ps, ws, hd, rfl, _⟩ := h; rfl
  case body =>
    obtain ⟨p, dx, a, b, ps, ws, hd, rfl, hp, hA, hB, hT, hst, k⟩ := h
    have hu := hr.units
    refine ⟨_, (pss_cons (ps_expr (pe_callN C_refuse_no_stand (hr.mono (by decide)) (by rfl) (pa_cons (pv 1) (pa_cons (pv 2) (pa_cons (pv 3) pa_nil)))))
 (pss_cons (ps_fldK K (pv 0) (pe_callTy (call_listK K) (by rfl) T.z_list bt_list (pa_cons (pv 1) pa_nil)) rfl)
 (pss_one (ps_fldK K (pv 0) (pe_lst (pa_cons (pe_tup (pa_cons (pv 2) (pa_cons (pe_callTy (call_listK K) (by rfl) T.z_list bt_list (pa_cons (pv 3) pa_nil)) (pa_cons (pe_op op_mulP (pe_lst (pa_cons pe_int pa_nil)) (pe_callB (call_lenK K) (by rfl) T.z_len bt_len (pa_cons (pv 3) pa_nil))) pa_nil)))) pa_nil)) rfl)))), ?_⟩
    dsimp only [tSeq, tAsg, gName, tOp, tUn, tTest, tB, tAnd, tOr, tNot, tAndV, tOrV, tNotV, tIf, tIfS, tRet, tRetN, tDrop, tNext, tCons, tNil, tCB, tCall, tMenu, tComp, tComp2, msk, List.zipWith, iZip2, iEnum, tNoIf, tTru, tJoin, cxOf_K, tLst, tTup, tSl, tPart, tNoPart, tBM, tBM0, tChain, tC, tFor_eq, gTup, gCons, gNil, gSub, iList, iRng1, iRng2, iRng3, iTup, iZip3, tWhile, tRev, tFld, sFld, tMeth, tMethS, tMake, tAug, tPar, tNever, ipI, List.append_nil]
    try clear hu
    walk_at "st"
    refine ⟨a, b, ps, ws, hd, rfl, SqL.of hA, SqL.of hB, hT, hst, fun H1 s1 => ?_⟩
    walk_at "st"
    refine i_listL (SqL.of (s1 _ _ hA)) (fun lp hlp => ?_)
    have s2 : Same H _ := s1.trans (same_upd (o := .lst (iL ps)) hlp)
    have e2 : upd H1 lp (.lst (iL ps)) lp = some (.lst (iL ps)) := upd_same
    have fp : H lp = none := s1.free hlp
    generalize upd H1 lp (.lst (iL ps)) = H2 at *
    walk_at "st"
    refine ⟨p, _, dx, _, rfl, s2 _ _ hp, Y.cl_Walker, Y.na_Walker_plays, by simp, ?_⟩
    have b3 : But p H (upd H2 p (.ins Y.c_Walker dx (putF "plays" (.ref lp) []))) := fun b o e n => by rw [upd_ne n]; exact s2 b o e
    have e3 : upd H2 p (.ins Y.c_Walker dx (putF "plays" (.ref lp) [])) p = some (.ins Y.c_Walker dx (putF "plays" (.ref lp) [])) := upd_same
    have np : lp ≠ p := fun z => by rw [z, hp] at fp; cases fp
    have g3 : upd H2 p (.ins Y.c_Walker dx (putF "plays" (.ref lp) [])) lp = some (.lst (iL ps)) := by rw [upd_ne np]; exact e2
    have nb : b ≠ p := fun z => by rw [z, hp] at hB; cases hB
    have hB3 := b3 _ _ hB nb
    generalize upd H2 p (.ins Y.c_Walker dx (putF "plays" (.ref lp) [])) = H3 at *
    clear s1 s2 e2 hlp
    walk_at "st"
    refine i_listL (SqL.of hB3) (fun lw hlw => ?_)
    walk_at "st"
    intro g4 hg4
    walk_at "st"
    refine i_lenI (SqL.of ((same_upd hg4) _ _ ((same_upd hlw) _ _ hB3))) ?_
    have hwl : ws.length ≤ 12 := by have := hT.2.1; have := hst.1; omega
    walk_at "st"
    refine i_repL (l := g4) (xs := [V.int 0]) upd_same (by omega) (by omega) (by simp; omega) (fun lg hlg => ?_)
    rw [show ((ws.length : Nat) : Int).toNat = ws.length by omega, flat_one]
    have s5 : Same H3 _ := ((same_upd (o := .lst (iL ws)) hlw).trans (same_upd (o := .lst [V.int 0]) hg4)).trans (same_upd (o := .lst (iL (List.replicate ws.length 0))) hlg)
    have e5 : upd (upd (upd H3 lw (.lst (iL ws))) g4 (.lst [V.int 0])) lg (.lst (iL (List.replicate ws.length 0))) lg = some (.lst (iL (List.replicate ws.length 0))) := upd_same
    have f5 : upd (upd (upd H3 lw (.lst (iL ws))) g4 (.lst [V.int 0])) lg (.lst (iL (List.replicate ws.length 0))) lw = some (.lst (iL ws)) := ((same_upd hg4).trans (same_upd hlg)) _ _ upd_same
    generalize upd (upd (upd H3 lw (.lst (iL ws))) g4 (.lst [V.int 0])) lg (.lst (iL (List.replicate ws.length 0))) = H5 at *
    walk_at "st"
    intro t ht
    have s6 : Same H3 _ := s5.trans (same_upd (o := .tup [.int hd, .ref lw, .ref lg]) ht)
    have fg : H3 lg = none := ((same_upd (o := .lst (iL ws)) hlw).trans (same_upd (o := .lst [V.int 0]) hg4)).free hlg
    have u6 : Same H5 (upd H5 t (.tup [.int hd, .ref lw, .ref lg])) := same_upd ht
    have e6 : upd H5 t (.tup [.int hd, .ref lw, .ref lg]) t = some (.tup [.int hd, .ref lw, .ref lg]) := upd_same
    have ft : H3 t = none := s5.free ht
    generalize upd H5 t (.tup [.int hd, .ref lw, .ref lg]) = H6 at *
    walk_at "st"
    intro ls hls
    have s7 : Same H3 _ := s6.trans (same_upd (o := .lst [.ref t]) hls)
    have u7 : Same H6 _ := same_upd (o := .lst [.ref t]) hls
    have g7 : upd H6 ls (.lst [.ref t]) ls = some (.lst [.ref t]) := upd_same
    have fl : H3 ls = none := s6.free hls
    generalize upd H6 ls (.lst [.ref t]) = H7 at *
    have h1 := u7 _ _ e6
    have h2 := u7 _ _ (u6 _ _ f5)
    have h3 := u7 _ _ (u6 _ _ e5)
    walk_at "st"
    refine ⟨p, _, dx, _, rfl, s7 _ _ e3, Y.cl_Walker, Y.na_Walker_states, by have := putF_le "plays" (.ref lp) ([] : List (Str × V)); simp at this; omega, ?_⟩
    have k7 := s7 _ _ e3
    have nl : ls ≠ p := fun z => by rw [z, e3] at fl; cases fl
    have nt : t ≠ p := fun z => by rw [z, e3] at ft; cases ft
    have nw' : lw ≠ p := fun z => by rw [z, k7] at h2; cases h2
    have ng' : lg ≠ p := fun z => by rw [z, k7] at h3; cases h3
    have fH : ∀ x, H3 x = none → x ≠ p → H x = none := fun x hx n => by
      cases e : H x with
      | none => rfl
      | some o => rw [b3 x o e n] at hx; cases hx
    have wk : ∀ H2 : Hp, (∀ b o, upd H7 p (.ins Y.c_Walker dx (wfl lp ls)) b = some o → (H b = none ∨ b = p) → H2 b = some o) → WkAt Y.c_Walker H2 p lp ls [t] ps [(hd, ws, List.replicate ws.length 0)] := fun H2 hk =>
      ⟨⟨dx, hk _ _ upd_same (.inr rfl)⟩, hk _ _ (by rw [upd_ne np]; exact s7 _ _ g3) (.inl fp), hk _ _ (by rw [upd_ne nl]; exact g7) (.inl (fH _ fl nl)), .cons ⟨lw, lg, hk _ _ (by rw [upd_ne nt]; exact h1) (.inl (fH _ ft nt)), hk _ _ (by rw [upd_ne nw']; exact h2) (.inl (fH _ hlw nw')), hk _ _ (by rw [upd_ne ng']; exact h3) (.inl (fH _ fg ng'))⟩ .nil⟩
    exact k lp ls t _ (fun b o e n => by rw [upd_ne n]; exact s7 _ _ (b3 b o e n)) fp (fH _ fl nl) (fH _ ft nt) (wk _ fun b o e _ => e) wk

--SPLIT
def spWHandle (C : Addr) : Sp := fun vs H Q _ => ∃ (p lp ls : Addr) (ts : List Addr) (ps : List Int) (ini : List WSt) (s : WSt), vs = [.ref p] ∧ WkAt C H p lp ls ts ps (ini ++ [s]) ∧ Q (.int s.1) H
theorem ok_Walker_handle (T : Txt mg) (Y : Own K mg) (D : DefM K Y.c_Walker "handle" "Walker.handle" s_Walker_handle) : CalleeM CX0 P w K mg base Y.c_Walker "handle" 1 (spWHandle Y.c_Walker) := by
  refine DefM.ok D sc_Walker_handle bd_Walker_handle (fun vs H Q E h => ?len) (fun f cdv A outer s H vs Q E hr h => ?body)
  case len => obtain ⟨p, lp, ls, ts, ps, ini, s, rfl, _⟩ := h; rfl
  case body =>
    obtain ⟨p, lp, ls, ts, ps, ini, s, rfl, W, k⟩ := h
    obtain ⟨dx, ep⟩ := W.ob
    obtain ⟨ts', t, hts, _, lw, lg, e1, e2, e3⟩ := paired_unsnoc W.it
    refine ⟨_, (pss_one (ps_ret (pe_ix (ix_K K) (pe_ix (ix_K K) (pe_fldK K (pv 0) (by rfl)) (pe_negK (r := -1) (by decide)) (by exact fun _ _ => rfl)) pe_int (by exact fun _ _ => rfl)))), ?_⟩
    dsimp only [tSeq, tAsg, gName, tOp, tUn, tTest, tB, tAnd, tOr, tNot, tAndV, tOrV, tNotV, tIf, tIfS, tRet, tRetN, tDrop, tNext, tCons, tNil, tCB, tCall, tMenu, tComp, tComp2, msk, List.zipWith, iZip2, iEnum, tNoIf, tTru, tJoin, cxOf_K, tLst, tTup, tSl, tPart, tNoPart, tBM, tBM0, tChain, tC, tFor_eq, gTup, gCons, gNil, gSub, iList, iRng1, iRng2, iRng3, iTup, iZip3, tWhile, tRev, tFld, sFld, tMeth, tMethS, tMake, tAug, tPar, tNever, ipI, List.append_nil]
    try clear hu
    walk_at "st"
    refine ⟨p, _, dx, _, _, rfl, ep, Y.cl_Walker, Y.na_Walker_states, wfl_states _ _, ?_⟩
    walk_at "st"
    refine i_ixLast (xs := ts'.map V.ref) (v := .ref t) (SqL.of (by rw [W.sl, hts]; simp)) ?_
    walk_at "st"
    exact i_ixT (SqT.of e1) (by decide) (v := .int s.1) rfl k
def spWWheels (C : Addr) : Sp := fun vs H Q _ => ∃ (p lp ls : Addr) (ts : List Addr) (ps : List Int) (ini : List WSt) (s : WSt), vs = [.ref p] ∧ WkAt C H p lp ls ts ps (ini ++ [s]) ∧ ∀ l, H l = none → Q (.ref l) (upd H l (.lst (iL s.2.1)))
theorem ok_Walker_wheels (T : Txt mg) (Y : Own K mg) (D : DefM K Y.c_Walker "wheels" "Walker.wheels" s_Walker_wheels) : CalleeM CX0 P w K mg base Y.c_Walker "wheels" 1 (spWWheels Y.c_Walker) := by
  refine DefM.ok D sc_Walker_wheels bd_Walker_wheels (fun vs H Q E h => ?len) (fun f cdv A outer s H vs Q E hr h => ?body)
  case len => obtain ⟨p, lp, ls, ts, ps, ini, s, rfl, _⟩ := h; rfl
  case body =>
    obtain ⟨p, lp, ls, ts, ps, ini, s, rfl, W, k⟩ := h
    obtain ⟨dx, ep⟩ := W.ob
    obtain ⟨ts', t, hts, _, lw, lg, e1, e2, e3⟩ := paired_unsnoc W.it
    refine ⟨_, (pss_one (ps_ret (pe_callTy (call_listK K) (by rfl) T.z_list bt_list (pa_cons (pe_ix (ix_K K) (pe_ix (ix_K K) (pe_fldK K (pv 0) (by rfl)) (pe_negK (r := -1) (by decide)) (by exact fun _ _ => rfl)) pe_int (by exact fun _ _ => rfl)) pa_nil)))), ?_⟩
    dsimp only [tSeq, tAsg, gName, tOp, tUn, tTest, tB, tAnd, tOr, tNot, tAndV, tOrV, tNotV, tIf, tIfS, tRet, tRetN, tDrop, tNext, tCons, tNil, tCB, tCall, tMenu, tComp, tComp2, msk, List.zipWith, iZip2, iEnum, tNoIf, tTru, tJoin, cxOf_K, tLst, tTup, tSl, tPart, tNoPart, tBM, tBM0, tChain, tC, tFor_eq, gTup, gCons, gNil, gSub, iList, iRng1, iRng2, iRng3, iTup, iZip3, tWhile, tRev, tFld, sFld, tMeth, tMethS, tMake, tAug, tPar, tNever, ipI, List.append_nil]
    try clear hu
    walk_at "st"
    refine ⟨p, _, dx, _, _, rfl, ep, Y.cl_Walker, Y.na_Walker_states, wfl_states _ _, ?_⟩
    walk_at "st"
    refine i_ixLast (xs := ts'.map V.ref) (v := .ref t) (SqL.of (by rw [W.sl, hts]; simp)) ?_
    walk_at "st"
    refine i_ixT (SqT.of e1) (by decide) (v := .ref lw) rfl ?_
    walk_at "st"
    exact i_listL (SqL.of e2) k
def spWWays (C : Addr) : Sp := fun vs H Q _ => ∃ (p lp ls : Addr) (ts : List Addr) (ps : List Int) (ini : List WSt) (s : WSt), vs = [.ref p] ∧ WkAt C H p lp ls ts ps (ini ++ [s]) ∧ ∀ l, H l = none → Q (.ref l) (upd H l (.lst (iL s.2.2)))
theorem ok_Walker_ways (T : Txt mg) (Y : Own K mg) (D : DefM K Y.c_Walker "ways" "Walker.ways" s_Walker_ways) : CalleeM CX0 P w K mg base Y.c_Walker "ways" 1 (spWWays Y.c_Walker) := by
  refine DefM.ok D sc_Walker_ways bd_Walker_ways (fun vs H Q E h => ?len) (fun f cdv A outer s H vs Q E hr h => ?body)
  case len => obtain ⟨p, lp, ls, ts, ps, ini, s, rfl, _⟩ := h; rfl
  case body =>
    obtain ⟨p, lp, ls, ts, ps, ini, s, rfl, W, k⟩ := h
    obtain ⟨dx, ep⟩ := W.ob
    obtain ⟨ts', t, hts, _, lw, lg, e1, e2, e3⟩ := paired_unsnoc W.it
    refine ⟨_, (pss_one (ps_ret (pe_callTy (call_listK K) (by rfl) T.z_list bt_list (pa_cons (pe_ix (ix_K K) (pe_ix (ix_K K) (pe_fldK K (pv 0) (by rfl)) (pe_negK (r := -1) (by decide)) (by exact fun _ _ => rfl)) pe_int (by exact fun _ _ => rfl)) pa_nil)))), ?_⟩
    dsimp only [tSeq, tAsg, gName, tOp, tUn, tTest, tB, tAnd, tOr, tNot, tAndV, tOrV, tNotV, tIf, tIfS, tRet, tRetN, tDrop, tNext, tCons, tNil, tCB, tCall, tMenu, tComp, tComp2, msk, List.zipWith, iZip2, iEnum, tNoIf, tTru, tJoin, cxOf_K, tLst, tTup, tSl, tPart, tNoPart, tBM, tBM0, tChain, tC, tFor_eq, gTup, gCons, gNil, gSub, iList, iRng1, iRng2, iRng3, iTup, iZip3, tWhile, tRev, tFld, sFld, tMeth, tMethS, tMake, tAug, tPar, tNever, ipI, List.append_nil]
    try clear hu
    walk_at "st"
    refine ⟨p, _, dx, _, _, rfl, ep, Y.cl_Walker, Y.na_Walker_states, wfl_states _ _, ?_⟩
    walk_at "st"
    refine i_ixLast (xs := ts'.map V.ref) (v := .ref t) (SqL.of (by rw [W.sl, hts]; simp)) ?_
    walk_at "st"
    refine i_ixT (SqT.of e1) (by decide) (v := .ref lg) rfl ?_
    walk_at "st"
    exact i_listL (SqL.of e3) k

--SPLIT
def spWGo (C : Addr) : Sp := fun vs H Q _ => ∃ (p lp ls : Addr) (ts : List Addr) (ps : List Int) (ini : List WSt) (s : WSt) (c : Int), vs = [.ref p, .int c] ∧ WkAt C H p lp ls ts ps (ini ++ [s]) ∧ isTr ps ∧ okS ps s ∧ ini.length ≤ 50000 ∧
  ∀ l t H1, But ls H H1 → H t = none → WkAt C H1 p lp ls (ts ++ [t]) ps (ini ++ [s] ++ [nx ps s c]) → H1 l = none → Q (.ref l) (upd H1 l (.lst (iL (nx ps s c).2.1)))
theorem ok_Walker_go (T : Txt mg) (Y : Own K mg) (D : DefM K Y.c_Walker "go" "Walker.go" s_Walker_go) (C_all_dragged : Callee P w K mg base "all_dragged" 2 (spAllDr K)) (C_farther : Callee P w K mg base "farther" 1 (spFarther K)) (C_Walker_wheels : CalleeM CX0 P w K mg base Y.c_Walker "wheels" 1 (spWWheels Y.c_Walker)) : CalleeM CX0 P w K mg base Y.c_Walker "go" 3 (spWGo Y.c_Walker) := by
  refine DefM.ok D sc_Walker_go bd_Walker_go (fun vs H Q E h => ?len) (fun f cdv A outer s H vs Q E hr h => ?body)
  case len => obtain ⟨p, lp, ls, ts, ps, ini, s, c, rfl, _⟩ := h; rfl
  case body =>
    obtain ⟨p, lp, ls, ts, ps, ini, s, c, rfl, W, hT, hok, hil, k⟩ := h
    obtain ⟨dx, ep⟩ := W.ob
    obtain ⟨ts', t0, hts, _, lw, lg, e1, e2, e3⟩ := paired_unsnoc W.it
    have hu := hr.units
    refine ⟨_, (pss_cons (ps_asg (pe_ix (ix_K K) (pe_fldK K (pv 0) (by rfl)) (pe_negK (r := -1) (by decide)) (by exact fun _ _ => rfl)) (pg_tupK K 3 (pgs_cons (pg_name (i := 2) sc_Walker_go.nd rfl (Or.inl rfl)) (pgs_cons (pg_name (i := 3) sc_Walker_go.nd rfl (Or.inl rfl)) (pgs_cons (pg_name (i := 4) sc_Walker_go.nd rfl (Or.inl rfl)) pgs_nil)))))
 (pss_cons (ps_set (i := 5) sc_Walker_go.nd rfl (Or.inl rfl) (pe_callN C_all_dragged (hr.mono (by decide)) (by rfl) (pa_cons (pe_fldK K (pv 0) (by rfl)) (pa_cons (pv 3) (pa_cons (pv 1) pa_nil)))))
 (pss_cons (ps_expr (pe_bmK K PySem.F.plainAttrs_list PySem.F.slot_list_append PySem.F.type_list_append mt_append (pe_fldK K (pv 0) (by rfl)) (pa_cons (pe_tup (pa_cons (pv 1) (pa_cons (pv 5) (pa_cons (pe_callN C_farther (hr.mono (by decide)) (by rfl) (pa_cons (pv 4) (pa_cons (pv 3) (pa_cons (pv 5) pa_nil)))) pa_nil)))) pa_nil)))
 (pss_one (ps_ret (pe_meth0N C_Walker_wheels Y.cl_Walker (pv 0) (hr.mono (by decide)))))))), ?_⟩
    dsimp only [tSeq, tAsg, gName, tOp, tUn, tTest, tB, tAnd, tOr, tNot, tAndV, tOrV, tNotV, tIf, tIfS, tRet, tRetN, tDrop, tNext, tCons, tNil, tCB, tCall, tMenu, tComp, tComp2, msk, List.zipWith, iZip2, iEnum, tNoIf, tTru, tJoin, cxOf_K, tLst, tTup, tSl, tPart, tNoPart, tBM, tBM0, tChain, tC, tFor_eq, gTup, gCons, gNil, gSub, iList, iRng1, iRng2, iRng3, iTup, iZip3, tWhile, tRev, tFld, sFld, tMeth, tMethS, tMake, tAug, tPar, tNever, ipI, List.append_nil]
    try clear hu
    walk_at "st"
    refine ⟨p, _, dx, _, _, rfl, ep, Y.cl_Walker, Y.na_Walker_states, wfl_states _ _, ?_⟩
    walk_at "st"
    refine i_ixLast (xs := ts'.map V.ref) (v := .ref t0) (SqL.of (by rw [W.sl, hts]; simp)) ?_
    walk_at "st"
    refine ⟨_, _, rfl, SqT.of e1, rfl, _, _, rfl, _, _, rfl, _, _, rfl, rfl, ?_⟩
    walk_at "st"
    refine ⟨p, _, dx, _, _, rfl, ep, Y.cl_Walker, Y.na_Walker_plays, wfl_plays _ _, ?_⟩
    walk_at "st"
    refine ⟨lp, lw, ps, s.2.1, c, rfl, SqL.of W.pl, SqL.of e2, hT.2.1, hT.2.2, fun lq H1 N1 => ?_⟩
    have W1 := W.more N1.sm
    walk_at "st"
    refine ⟨p, _, dx, _, _, rfl, N1.sm _ _ ep, Y.cl_Walker, Y.na_Walker_states, wfl_states _ _, ?_⟩
    walk_at "st"
    refine ⟨.inl ⟨rfl, _, SqL.of W1.sl⟩, ?_⟩
    walk_at "st"
    have h12 := hT.2.1
    refine ⟨lg, lw, lq, s.2.2, s.2.1, _, rfl, SqL.of (N1.sm _ _ e3), SqL.of (N1.sm _ _ e2), SqL.of N1.at_, by have := hok.2; omega, fun lf H2 N2 => ?_⟩
    walk_at "st"
    intro t ht
    have s3 : Same H _ := (N1.sm.trans N2.sm).trans (same_upd (o := .tup [.int c, .ref lq, .ref lf]) ht)
    have e4 : StAt (upd H2 t (.tup [.int c, .ref lq, .ref lf])) t (nx ps s c) := ⟨lq, lf, upd_same, same_upd ht _ _ (N2.sm _ _ N1.at_), same_upd ht _ _ N2.at_⟩
    have ft : H t = none := (N1.sm.trans N2.sm).free ht
    generalize upd H2 t (.tup [.int c, .ref lq, .ref lf]) = H3 at *
    have W3 := W.more s3
    have htl : ts.length ≤ 50001 := by have := W.it.length; simp at this; omega
    have hne : ts ≠ [] := by rw [hts]; simp
    walk_at "st"
    refine i_app W3.sl (szlt (by simp; omega)) ?_
    have b4 : But ls H3 (upd H3 ls (.lst (ts.map V.ref ++ [V.ref t]))) := fun b o e n => by rw [upd_ne n]; exact e
    have g4 : upd H3 ls (.lst (ts.map V.ref ++ [V.ref t])) ls = some (.lst ((ts ++ [t]).map V.ref)) := by rw [upd_same]; simp
    generalize upd H3 ls (.lst (ts.map V.ref ++ [V.ref t])) = H4 at *
    have W4 : WkAt Y.c_Walker H4 p lp ls (ts ++ [t]) ps (ini ++ [s] ++ [nx ps s c]) := W3.set hne b4 g4 (paired_snoc (Paired.mapP W3.it fun _ _ h => h.but b4 W3.sl hne) (e4.but b4 W3.sl hne))
    obtain ⟨dx4, ep4⟩ := W4.ob
    walk_at "st"
    refine ⟨p, dx4, _, rfl, ep4, wfl_no _ _ (by decide +kernel) (by decide +kernel), ?_⟩
    walk_at "st"
    exact ⟨p, lp, ls, ts ++ [t], ps, ini ++ [s], nx ps s c, rfl, W4, fun l hl => k l t H4 (fun b o e n => b4 b o (s3 b o e) n) ft W4 hl⟩

--SPLIT
def spGoal : Sp := fun vs H Q _ => ∃ (a b : Addr) (ps pk : List Int), vs = [.ref a, .ref b] ∧ H a = some (.lst (iL ps)) ∧ H b = some (.lst (iL pk)) ∧ isTr ps ∧ pk.length = 26 ∧ (∀ x ∈ pk, 0 ≤ x ∧ x < 1000000) ∧
  ∀ t lg gs e H', Same H H' → H' t = some (.tup [.int e, .ref lg]) → H' lg = some (.lst (iL gs)) → stand ps e gs → Q (.ref t) H'
theorem ok_law_a_goal (T : Txt mg) (D : Def K mg "_law_a_goal" s_law_a_goal) : Callee P w K mg base "_law_a_goal" 1 spGoal := by
  refine D.ok sc_law_a_goal bd_law_a_goal (fun vs H Q E h => ?len) (fun f cdv A outer s H vs Q E hr h => ?body)
  case len => obtain ⟨a, b, ps, pk, rfl, _⟩ := h; rfl
  case body =>
    obtain ⟨a, b, ps, pk, rfl, hA, hB, hT, hpk, hb, k⟩ := h
    have h12 := hT.2.1
    refine ⟨_, (pss_cons (ps_set (i := 2) sc_law_a_goal.nd rfl (Or.inl rfl) (pe_lst pa_nil))
 (pss_cons (ps_set (i := 3) sc_law_a_goal.nd rfl (Or.inl rfl) (pe_op op_sub (pe_op op_mod (pe_ix (ix_K K) (pv 1) pe_int (by exact fun _ _ => rfl)) pe_int) pe_int))
 (pss_cons (ps_set (i := 4) sc_law_a_goal.nd rfl (Or.inl rfl) (pv 3))
 (pss_cons (ps_for PassesOwn.never rfl (pi_enumerate1K K (by rfl) T.z_enumerate (pa_cons (pv 0) pa_nil)) (pg_tupK K 2 (pgs_cons (pg_name (i := 5) sc_law_a_goal.nd rfl (Or.inl rfl)) (pgs_cons (pg_name (i := 6) sc_law_a_goal.nd rfl (Or.inl rfl)) pgs_nil)))
 (pss_cons (ps_set (i := 4) sc_law_a_goal.nd rfl (Or.inl rfl) (pe_op op_addP (pv 4) (pe_menu (pa_cons (pv 6) (pa_cons (pe_op op_sub pe_int (pv 6)) (pa_cons (pe_op op_sub (pe_op op_mod (pe_ix (ix_K K) (pv 1) (pe_op op_addP (pv 5) pe_int) (by exact fun _ _ => rfl)) (pe_op op_addP (pe_op op_mulP pe_int (pv 6)) pe_int)) (pv 6)) pa_nil))) (pe_op op_mod (pe_ix (ix_K K) (pv 1) (pe_op op_addP (pv 5) pe_int) (by exact fun _ _ => rfl)) pe_int) (by exact fun _ _ => rfl))))
 (pss_one (ps_expr (pe_bmK K PySem.F.plainAttrs_list PySem.F.slot_list_append PySem.F.type_list_append mt_append (pv 2) (pa_cons (pv 4) pa_nil))))))
 (pss_one (ps_ret (pe_tup (pa_cons (pv 3) (pa_cons (pv 2) pa_nil))))))))), ?_⟩
    dsimp only [tSeq, tAsg, gName, tOp, tUn, tTest, tB, tAnd, tOr, tNot, tAndV, tOrV, tNotV, tIf, tIfS, tRet, tRetN, tDrop, tNext, tCons, tNil, tCB, tCall, tMenu, tComp, tComp2, msk, List.zipWith, iZip2, iEnum, tNoIf, tTru, tJoin, cxOf_K, tLst, tTup, tSl, tPart, tNoPart, tBM, tBM0, tChain, tC, tFor_eq, gTup, gCons, gNil, gSub, iList, iRng1, iRng2, iRng3, iTup, iZip3, tWhile, tRev, tFld, sFld, tMeth, tMethS, tMake, tAug, tPar, tNever, ipI, List.append_nil]
    try clear hu
    walk_at "st"
    intro l hl
    have s1 : Same H (upd H l (.lst [])) := same_upd hl
    walk_at "st"
    refine i_ixL (SqL.of (s1 _ _ hB)) (by omega) (by omega) (fun v0 _ m0 => ?_)
    walk_at "st"
    generalize v0 % 2001 - 1000 = e
    refine ⟨⟨_, s1 _ _ hA⟩, lp_enum (xs := iL ps) (fun i σ H2 => ∃ (gs : List Int) (u1 u2 : Option V), σ = [some (.ref a), some (.ref b), some (.ref l), some (.int e), some (.int (lastOf e gs)), u1, u2] ∧ NewI H H2 l gs ∧ gs.length = i ∧ keeps (ps.take i) e gs) ?_ ?_ ?_ ?_⟩
    · exact ⟨[], _, _, rfl, ⟨hl, s1, upd_same⟩, rfl, by simp [keeps]⟩
    · rintro i σ H2 ⟨gs, u1, u2, rfl, N, hgl, hk⟩
      exact SqL.of (N.sm _ _ hA)
    · rintro i x t σ H2 hx ⟨gs, u1, u2, rfl, N, hgl, hk⟩ ht
      rw [List.getElem?_map] at hx
      obtain ⟨p, hp, rfl⟩ := Option.map_eq_some_iff.mp hx
      have hil : i < ps.length := (List.getElem?_eq_some_iff.mp hp).1
      have p0 := hT.2.2 p (List.mem_of_getElem? hp)
      walk_at "st"
      refine ⟨_, _, rfl, SqT.of upd_same, rfl, _, _, rfl, _, _, rfl, rfl, ?_⟩
      have N2 := N.more (same_upd (o := .tup [.int i, .int p]) ht)
      generalize upd H2 t (.tup [.int i, .int p]) = H3 at *
      have hB3 := N2.sm _ _ hB
      walk_at "st"
      refine i_ixL (SqL.of hB3) (by omega) (by omega) (fun v1 _ m1 => ?_)
      walk_at "st"
      refine i_mulI (cmul_l (by decide) (by decide)) ?_
      walk_at "st"
      refine i_ixL (SqL.of hB3) (by omega) (by omega) (fun v2 _ m2 => ?_)
      walk_at "st"
      have f1 := Int.emod_nonneg v1 (show 2 * p + 1 ≠ 0 by omega)
      have f2 := Int.emod_lt_of_pos v1 (show 0 < 2 * p + 1 by omega)
      generalize v1 % (2 * p + 1) = off at *
      refine i_menu3 (Int.emod_nonneg _ (by decide)) (Int.emod_lt_of_pos _ (by decide)) (fun z hz => ?_)
      walk_at "st"
      refine ⟨.inl ⟨rfl, _, SqL.of N2.at_⟩, ?_⟩
      walk_at "st"
      refine i_app N2.at_ (szlt (by simp [iL]; omega)) ?_
      refine ⟨gs ++ [lastOf e gs + z], _, _, by rw [lastOf_snoc]; rfl, N2.app, by simp; omega, ?_⟩
      rw [take_snoc_get hp]
      exact keeps_snoc _ _ _ (by simp; omega) hk (by omega) (by omega)
    · rintro σ H2 ⟨gs, u1, u2, rfl, N, hgl, hk⟩
      walk_at "st"
      intro t ht
      have e1 : (iL ps).length = ps.length := by simp [iL]
      rw [e1] at hgl hk
      rw [List.take_of_length_le (Nat.le_refl _)] at hk
      exact k t l gs e _ (N.sm.trans (same_upd ht)) upd_same (same_upd ht _ _ N.at_) ⟨hgl, hk⟩

--SPLIT
theorem lw_tri {ps : List Int} (ht : isTr ps) {a b c : Std} (ha : okSt ps a) (hb : okSt ps b) (hc : okSt ps c) : lw ps a c ≤ lw ps a b + lw ps b c := by
  have h1 := told_leads ht.2.2 ha hb
  have h2 := told_leads ht.2.2 hb hc
  have := least (row := toldRow ps a.1 a.2 b.1 b.2 ++ toldRow ps b.1 b.2 c.1 c.2) (gs := c.2) (e := c.1) ht.2.2 ha (by rw [endW_append, h1.1, h2.1]) (by
    have go : ∀ (r1 r2 : List Int) (h : Int), lastOf h (r1 ++ r2) = lastOf (lastOf h r1) r2 := by
      intro r1
      induction r1 with
      | nil => intro r2 h; rfl
      | cons x r1 ih => intro r2 h; exact ih r2 x
    rw [go, h1.2, h2.2]) (paper_isPap (n := ps.length) (D := pc (depths 0 ps) 0) (F := pc a.2 a.1) (G := pc c.2 c.1))
  unfold lw
  rw [way_append, h1.2] at this
  exact this
theorem lw_nonneg (ps : List Int) (a b : Std) : 0 ≤ lw ps a b := way_nonneg _ _
def shS (b : Int) (s : Std) : Std := (s.1 + b, s.2.map (· + b))
def ovS (s : Std) : Std := (0 - s.1, s.2.map (0 - ·))
theorem lw_sh {ps : List Int} (ht : isTr ps) {a b : Std} (ha : okSt ps a) (hb : okSt ps b) (m : Int) : lw ps (shS m a) (shS m b) = lw ps a b := by
  unfold lw shS
  rw [toldRow_sh m (by have := ht.1; omega) ha.1 hb.1, way_sh]
theorem lw_ov {ps : List Int} (ht : isTr ps) {a b : Std} (ha : okSt ps a) (hb : okSt ps b) : lw ps (ovS a) (ovS b) = lw ps a b := by
  unfold lw ovS
  rw [toldRow_ov (by have := ht.1; omega) ha.1 hb.1, way_ov]
theorem ok_sh {ps : List Int} (m : Int) : ∀ {s : Std}, okSt ps s → okSt ps (shS m s) := fun {s} h => by
  refine ⟨by simpa [shS] using h.1, ?_⟩
  have go : ∀ (ps xs : List Int) (a : Int), keeps ps a xs → keeps ps (a + m) (xs.map (· + m)) := by
    intro ps
    induction ps with
    | nil => intro xs a _; cases xs <;> trivial
    | cons p ps ih =>
      intro xs a h
      cases xs with
      | nil => trivial
      | cons x xs => exact ⟨show x + m - (a + m) ≤ p ∧ a + m - (x + m) ≤ p by have := h.1; omega, ih xs x h.2⟩
  exact go _ _ _ h.2
theorem ok_ov {ps : List Int} : ∀ {s : Std}, okSt ps s → okSt ps (ovS s) := fun {s} h => by
  refine ⟨by simpa [ovS] using h.1, ?_⟩
  have go : ∀ (ps xs : List Int) (a : Int), keeps ps a xs → keeps ps (0 - a) (xs.map (0 - ·)) := by
    intro ps
    induction ps with
    | nil => intro xs a _; cases xs <;> trivial
    | cons p ps ih =>
      intro xs a h
      cases xs with
      | nil => trivial
      | cons x xs => exact ⟨show 0 - x - (0 - a) ≤ p ∧ 0 - a - (0 - x) ≤ p by have := h.1; omega, ih xs x h.2⟩
  exact go _ _ _ h.2
theorem stA_ok {ps : List Int} {start : Std} {sts : List Std} (h0 : okSt ps start) (h : ∀ s ∈ sts, okSt ps s) (l : Int) : okSt ps (stA start sts l) := by
  unfold stA
  split
  · exact h0
  · rw [List.getD_eq_getElem?_getD]
    cases e : sts[l.toNat]? with
    | none => exact h0
    | some s => exact h s (List.mem_of_getElem? e)
theorem stA_map (f : Std → Std) (start : Std) (sts : List Std) (l : Int) : stA (f start) (sts.map f) l = f (stA start sts l) := by
  unfold stA
  split
  · rfl
  · rw [List.getD_eq_getElem?_getD, List.getD_eq_getElem?_getD, List.getElem?_map]
    cases sts[l.toNat]? <;> rfl
theorem Dw_sh {ps : List Int} (ht : isTr ps) {start : Std} {sts : List Std} (h0 : okSt ps start) (h : ∀ s ∈ sts, okSt ps s) (m : Int) : Dw ps (shS m start) (sts.map (shS m)) = Dw ps start sts := by
  funext l x
  unfold Dw
  rw [stA_map, stA_map, lw_sh ht (stA_ok h0 h l) (stA_ok h0 h x)]
theorem Dw_ov {ps : List Int} (ht : isTr ps) {start : Std} {sts : List Std} (h0 : okSt ps start) (h : ∀ s ∈ sts, okSt ps s) : Dw ps (ovS start) (sts.map ovS) = Dw ps start sts := by
  funext l x
  unfold Dw
  rw [stA_map, stA_map, lw_ov ht (stA_ok h0 h l) (stA_ok h0 h x)]
theorem best_le {D : Int → Int → Int} {last : Int} {nums : List Int} {p : Int × List Int} (h : IsBest D last nums p) {o : List Int} (ho : o.Perm nums) : p.1 ≤ wayO D last o := by
  have := h.2.2 o ho
  unfold HT.pairLt at this
  by_cases e : wayO D last o = p.1
  · omega
  · rw [if_neg e] at this
    have := of_decide_eq_false this
    simp only at this
    omega
theorem rsum_way (ps : List Int) (start : Std) (sts : List Std) : ∀ (o : List Int) (l : Int), rsum ps (stA start sts l) (o.map (stA start sts)) = wayO (Dw ps start sts) l o
  | [], _ => rfl
  | x :: o, l => by
    simp only [List.map_cons, rsum, wayO]
    rw [rsum_way ps start sts o x]
    rfl
theorem way_less {D : Int → Int → Int} (tri : ∀ a b c, D a c ≤ D a b + D b c) (nn : ∀ a b, 0 ≤ D a b) (x : Int) : ∀ (o : List Int) (l : Int), o.Nodup → wayO D l (less o x) ≤ wayO D l o
  | [], _, _ => Int.le_refl _
  | y :: o, l, nd => by
    obtain ⟨n1, n2⟩ := List.nodup_cons.mp nd
    by_cases e : y = x
    · subst e
      have e1 : less (y :: o) y = o := by
        unfold less
        rw [List.filter_cons, if_neg (by simp)]
        exact List.filter_eq_self.mpr fun z hz => by simp; intro q; subst q; exact n1 hz
      rw [e1]
      cases o with
      | nil => simp only [wayO]; have := nn l y; omega
      | cons z o => simp only [wayO]; have := tri l y z; omega
    · have e1 : less (y :: o) x = y :: less o x := by
        unfold less
        rw [List.filter_cons, if_pos (by simpa using e)]
      rw [e1]
      simp only [wayO]
      have := way_less tri nn x o y n2
      omega
theorem wayO_congr {D D' : Int → Int → Int} {n : Int} (h : ∀ l x, -1 ≤ l → l < n → 0 ≤ x → x < n → D l x = D' l x) : ∀ (o : List Int) (l : Int), (-1 ≤ l ∧ l < n) → (∀ x ∈ o, 0 ≤ x ∧ x < n) → wayO D l o = wayO D' l o
  | [], _, _, _ => rfl
  | y :: o, l, hl, ho => by
    have hy := ho y List.mem_cons_self
    simp only [wayO]
    rw [h l y hl.1 hl.2 hy.1 hy.2, wayO_congr h o y ⟨by omega, hy.2⟩ fun z hz => ho z (List.mem_cons_of_mem _ hz)]
theorem best_more {ps : List Int} (ht : isTr ps) {start s : Std} {sts : List Std} (h0 : okSt ps start) (h : ∀ s ∈ sts, okSt ps s) (hs : okSt ps s) {p q : Int × List Int} (hp : IsBest (Dw ps start sts) (-1) (upto sts.length) p) (hq : IsBest (Dw ps start (sts ++ [s])) (-1) (upto (sts ++ [s]).length) q) : p.1 ≤ q.1 := by
  have hall : ∀ z ∈ sts ++ [s], okSt ps z := fun z hz => by
    rcases List.mem_append.mp hz with y | y
    · exact h z y
    · simp at y; subst y; exact hs
  have e1 : (sts ++ [s]).length = sts.length + 1 := by simp
  rw [e1] at hq
  have hnd : q.2.Nodup := hq.1.nodup_iff.mpr (upto_nodup _)
  have hperm : (less q.2 sts.length).Perm (upto sts.length) := by
    refine (List.perm_ext_iff_of_nodup (hnd.filter _) (upto_nodup _)).mpr fun x => ?_
    rw [List.mem_filter, hq.1.mem_iff, mem_upto, mem_upto]
    simp
    omega
  have w1 := way_less (D := Dw ps start (sts ++ [s])) (fun a b c => lw_tri ht (stA_ok h0 hall a) (stA_ok h0 hall b) (stA_ok h0 hall c)) (fun a b => lw_nonneg _ _ _) sts.length q.2 (-1) hnd
  have w2 : wayO (Dw ps start (sts ++ [s])) (-1) (less q.2 sts.length) = wayO (Dw ps start sts) (-1) (less q.2 sts.length) := by
    refine wayO_congr (n := sts.length) (fun l x h1 h2 h3 h4 => ?_) _ _ ⟨by omega, by omega⟩ (fun x hx => mem_upto.mp (hperm.subset hx))
    have eq : ∀ l : Int, -1 ≤ l → l < sts.length → stA start (sts ++ [s]) l = stA start sts l := fun l h1 h2 => by
      unfold stA
      by_cases z : l = -1
      · rw [if_pos z, if_pos z]
      · rw [if_neg z, if_neg z, List.getD_eq_getElem?_getD, List.getD_eq_getElem?_getD, List.getElem?_append_left (by omega)]
    unfold Dw
    rw [eq l h1 h2, eq x (by omega) h4]
  have w3 := best_le hp hperm
  rw [hq.2.1]
  omega
--SPLIT
def lastS : Std → List Std → Std
  | a, [] => a
  | _, b :: r => lastS b r
theorem rsum_snoc (ps : List Int) (b : Std) : ∀ (r : List Std) (a : Std), rsum ps a (r ++ [b]) = rsum ps a r + lw ps (lastS a r) b
  | [], a => by simp [rsum, lastS]
  | c :: r, a => by
    simp only [List.cons_append, rsum, lastS]
    rw [rsum_snoc ps b r c]
    omega
theorem lastS_snoc (b : Std) : ∀ (r : List Std) (a : Std), lastS a (r ++ [b]) = b
  | [], _ => rfl
  | c :: r, _ => lastS_snoc b r c
theorem lastS_ok {ps : List Int} : ∀ (r : List Std) (a : Std), okSt ps a → (∀ s ∈ r, okSt ps s) → okSt ps (lastS a r)
  | [], _, h, _ => h
  | b :: r, _, _, h => lastS_ok r b (h b List.mem_cons_self) fun s hs => h s (List.mem_cons_of_mem _ hs)
def spAGone : Sp := fun vs H Q _ => ∃ (a b c : Addr) (ps ws : List Int) (hd : Int) (ts : List Addr) (sts : List Std), vs = [.ref a, .int hd, .ref b, .ref c] ∧ H a = some (.lst (iL ps)) ∧ H b = some (.lst (iL ws)) ∧ H c = some (.lst (ts.map V.ref)) ∧ StsAt H ts sts ∧ isTr ps ∧ stand ps hd ws ∧ (∀ s ∈ sts, okSt ps s) ∧ sts.length ≤ 10 ∧
  ∀ H', Same H H' → Q (.int (rsum ps (hd, ws) sts)) H'
theorem ok_law_a_gone (T : Txt mg) (Y : Own K mg) (D : Def K mg "_law_a_gone" s_law_a_gone) (C_Walker : CalleeC CX0 P w K mg base Y.c_Walker "Walker" 5 (spWInit Y.c_Walker)) (C_least_row : Callee P w K mg base "least_row" 8 spLeastRow) (C_Walker_handle : CalleeM CX0 P w K mg base Y.c_Walker "handle" 1 (spWHandle Y.c_Walker)) (C_Walker_wheels : CalleeM CX0 P w K mg base Y.c_Walker "wheels" 1 (spWWheels Y.c_Walker)) (C_Walker_go : CalleeM CX0 P w K mg base Y.c_Walker "go" 3 (spWGo Y.c_Walker)) : Callee P w K mg base "_law_a_gone" 9 spAGone := by
  refine D.ok sc_law_a_gone bd_law_a_gone (fun vs H Q E h => ?len) (fun f cdv A outer s H vs Q E hr h => ?body)
  case len => obtain ⟨a, b, c, ps, ws, hd, ts, sts, rfl, _⟩ := h; rfl
  case body =>
    obtain ⟨a, b, c, ps, ws, hd, ts, sts, rfl, hA, hB, hC, hT, ht, hs, hok, hl, k⟩ := h
    have hu := hr.units
    have htl : ts.length = sts.length := hT.length
    refine ⟨_, (pss_cons (ps_set (i := 4) sc_law_a_gone.nd rfl (Or.inl rfl) (pe_makeN C_Walker (hr.mono (by decide)) (by rfl) (pa_cons (pv 0) (pa_cons (pv 1) (pa_cons (pv 2) pa_nil)))))
 (pss_cons (ps_set (i := 5) sc_law_a_gone.nd rfl (Or.inl rfl) pe_int)
 (pss_cons (ps_for PassesOwn.never rfl (pi_listK K (pv 3)) (pg_tupK K 2 (pgs_cons (pg_name (i := 6) sc_law_a_gone.nd rfl (Or.inl rfl)) (pgs_cons (pg_name (i := 7) sc_law_a_gone.nd rfl (Or.inl rfl)) pgs_nil)))
 (pss_cons (ps_for PassesOwn.never rfl (pi_listK K (pe_callN C_least_row (hr.mono (by decide)) (by rfl) (pa_cons (pv 0) (pa_cons (pe_meth0N C_Walker_handle Y.cl_Walker (pv 4) (hr.mono (by decide))) (pa_cons (pe_meth0N C_Walker_wheels Y.cl_Walker (pv 4) (hr.mono (by decide))) (pa_cons (pv 6) (pa_cons (pv 7) pa_nil))))))) (pg_name (i := 8) sc_law_a_gone.nd rfl (Or.inl rfl))
 (pss_cons (ps_set (i := 5) sc_law_a_gone.nd rfl (Or.inl rfl) (pe_op op_addP (pv 5) (pe_callB call_absK (by rfl) T.z_abs bt_abs (pa_cons (pe_op op_sub (pv 8) (pe_meth0N C_Walker_handle Y.cl_Walker (pv 4) (hr.mono (by decide)))) pa_nil))))
 (pss_one (ps_expr (pe_methN C_Walker_go Y.cl_Walker (pv 4) (hr.mono (by decide)) (pa_cons (pv 8) pa_nil))))))
 (pss_one (ps_if (pt_cmpR (op_neK K hu) (pe_tup (pa_cons (pe_meth0N C_Walker_handle Y.cl_Walker (pv 4) (hr.mono (by decide))) (pa_cons (pe_meth0N C_Walker_wheels Y.cl_Walker (pv 4) (hr.mono (by decide))) pa_nil))) (pe_tup (pa_cons (pv 6) (pa_cons (pv 7) pa_nil))) (nomark _))
 (pss_one (ps_ret pe_non))
 pss_nil))))
 (pss_one (ps_ret (pv 5)))))), ?_⟩
    dsimp only [tSeq, tAsg, gName, tOp, tUn, tTest, tB, tAnd, tOr, tNot, tAndV, tOrV, tNotV, tIf, tIfS, tRet, tRetN, tDrop, tNext, tCons, tNil, tCB, tCall, tMenu, tComp, tComp2, msk, List.zipWith, iZip2, iEnum, tNoIf, tTru, tJoin, cxOf_K, tLst, tTup, tSl, tPart, tNoPart, tBM, tBM0, tChain, tC, tFor_eq, gTup, gCons, gNil, gSub, iList, iRng1, iRng2, iRng3, iTup, iZip3, tWhile, tRev, tFld, sFld, tMeth, tMethS, tMake, tAug, tPar, tNever, ipI, List.append_nil]
    try clear hu
    walk_at "st"
    intro x dx fx ndx nex
    have s1 : Same H (upd H dx (.own x)) := same_upd ndx
    have nx1 : upd H dx (.own x) x = none := by rw [upd_ne (Ne.symm nex)]; exact fx
    have s2 : Same H (upd (upd H dx (.own x)) x (.ins Y.c_Walker dx [])) := s1.trans (same_upd nx1)
    have ex : upd (upd H dx (.own x)) x (.ins Y.c_Walker dx []) x = some (.ins Y.c_Walker dx []) := upd_same
    generalize upd (upd H dx (.own x)) x (.ins Y.c_Walker dx []) = H1 at *
    refine ⟨x, dx, a, b, ps, ws, hd, rfl, ex, s2 _ _ hA, s2 _ _ hB, ht, hs, fun lp ls t H2 bt flp fls ft W0 _ => ⟨rfl, ?_⟩⟩
    have S2 : Same H H2 := fun b o e => bt b o (s2 b o e) (ne_of_none e fx)
    have fls' : H ls = none := s2.free fls
    clear bt s1 nx1 ex
    walk_at "st"
    refine ⟨⟨_, SqL.of (S2 _ _ hC)⟩, lp_list (xs := ts.map V.ref) (fun i σ H3 => ∃ (u6 u7 u8 : Option V) (tw : List Addr) (ini : List WSt) (s : WSt), σ = [some (.ref a), some (.int hd), some (.ref b), some (.ref c), some (.ref x), some (.int (rsum ps (hd, ws) (sts.take i))), u6, u7, u8] ∧ Same H H3 ∧ WkAt Y.c_Walker H3 x lp ls tw ps (ini ++ [s]) ∧ okS ps s ∧ (s.1, s.2.1) = lastS (hd, ws) (sts.take i) ∧ ini.length ≤ 100 * i) ?_ ?_ ?_ ?_⟩
    · exact ⟨_, _, _, [t], [], (hd, ws, List.replicate ws.length 0), rfl, S2, W0, ⟨hs.1, by simp [hs.1]⟩, rfl, by simp⟩
    · rintro i σ H3 _ ⟨u6, u7, u8, tw, ini, s, rfl, sm, _⟩
      exact SqL.of (sm _ _ hC)
    · rintro i y σ H3 hy ⟨u6, u7, u8, tw, ini, s, rfl, sm, W, hoS, hcur, hini⟩
      rw [List.getElem?_map] at hy
      obtain ⟨t', hti, rfl⟩ := Option.map_eq_some_iff.mp hy
      obtain ⟨g, hgi, lg, hTg, hLg⟩ := paired_getL hT hti
      have hil : i < sts.length := (List.getElem?_eq_some_iff.mp hgi).1
      have hokg := hok g (List.mem_of_getElem? hgi)
      have hokc : okSt ps (s.1, s.2.1) := by rw [hcur]; exact lastS_ok _ _ hs fun z hz => hok z (List.mem_of_mem_take hz)
      obtain ⟨dx3, ep3⟩ := W.ob
      walk_at "st"
      refine ⟨_, _, rfl, SqT.of (sm _ _ hTg), rfl, _, _, rfl, _, _, rfl, rfl, ?_⟩
      walk_at "st"
      refine ⟨x, dx3, _, rfl, ep3, wfl_no _ _ (by decide +kernel) (by decide +kernel), ?_⟩
      walk_at "st"
      refine ⟨x, lp, ls, tw, ps, ini, s, rfl, W, ?_⟩
      walk_at "st"
      refine ⟨x, dx3, _, rfl, ep3, wfl_no _ _ (by decide +kernel) (by decide +kernel), ?_⟩
      walk_at "st"
      refine ⟨x, lp, ls, tw, ps, ini, s, rfl, W, fun l4 h4 => ?_⟩
      have s4 : Same H3 _ := same_upd (o := .lst (iL s.2.1)) h4
      have e4 : upd H3 l4 (.lst (iL s.2.1)) l4 = some (.lst (iL s.2.1)) := upd_same
      generalize upd H3 l4 (.lst (iL s.2.1)) = H4 at *
      have S4 := sm.trans s4
      walk_at "st"
      refine ⟨a, l4, lg, ps, s.2.1, g.2, s.1, g.1, rfl, S4 _ _ hA, e4, S4 _ _ hLg, ht, hokc, hokg, fun lr H5 N5 => ?_⟩
      have S5 := S4.trans N5.sm
      have W5 := W.more (s4.trans N5.sm)
      have hRl := N5.at_
      have hrl : (toldRow ps s.1 s.2.1 g.1 g.2).length ≤ 13 := by have := toldRow_length (ps := ps) (ws := s.2.1) (gs := g.2) (hd := s.1) (e := g.1); have := ht.2.1; omega
      have hlead := told_leads ht.2.2 hokc hokg
      have hlw : lw ps (s.1, s.2.1) g = way s.1 (toldRow ps s.1 s.2.1 g.1 g.2) := rfl
      generalize toldRow ps s.1 s.2.1 g.1 g.2 = row at *
      walk_at "st"
      refine ⟨⟨_, SqL.of hRl⟩, lp_ints (ns := row) (fun j σ H6 => ∃ (u8 : Option V) (tw' : List Addr) (ini' : List WSt) (s' : WSt), σ = [some (.ref a), some (.int hd), some (.ref b), some (.ref c), some (.ref x), some (.int (rsum ps (hd, ws) (sts.take i) + way s.1 (row.take j))), some (.int g.1), some (.ref lg), u8] ∧ Same H H6 ∧ H6 lr = some (.lst (iL row)) ∧ WkAt Y.c_Walker H6 x lp ls tw' ps (ini' ++ [s']) ∧ okS ps s' ∧ s' = endS ps s (row.take j) ∧ ini'.length ≤ 100 * i + j) ?_ ?_ ?_ ?_⟩
      · exact ⟨u8, tw, ini, s, by simp [way], S5, hRl, W5, hoS, rfl, by omega⟩
      · rintro j σ H6 _ ⟨u8, tw', ini', s', rfl, sm6, hR6, _⟩
        exact SqL.of hR6
      · rintro j cc σ H6 hcj ⟨u8, tw', ini', s', rfl, sm6, hR6, W6, hoS6, hs6, hi6⟩
        have hjl : j < row.length := (List.getElem?_eq_some_iff.mp hcj).1
        obtain ⟨dx6, ep6⟩ := W6.ob
        have hne6 : tw' ≠ [] := fun z => by have := W6.it.length; rw [z] at this; simp at this
        walk_at "st"
        refine ⟨x, dx6, _, rfl, ep6, wfl_no _ _ (by decide +kernel) (by decide +kernel), ?_⟩
        walk_at "st"
        refine ⟨x, lp, ls, tw', ps, ini', s', rfl, W6, ?_⟩
        walk_at "st"
        refine ⟨x, dx6, _, rfl, ep6, wfl_no _ _ (by decide +kernel) (by decide +kernel), ?_⟩
        walk_at "st"
        refine ⟨x, lp, ls, tw', ps, ini', s', cc, rfl, W6, ht, hoS6, by omega, fun l7 t7 H7 bt7 _ W7 h7 => ?_⟩
        have s8 : Same H7 _ := same_upd (o := .lst (iL (nx ps s' cc).2.1)) h7
        refine ⟨some (.int cc), tw' ++ [t7], ini' ++ [s'], nx ps s' cc, ?_, fun b o z => s8 _ _ (bt7 _ _ (sm6 _ _ z) (ne_of_none z fls')), s8 _ _ (bt7 _ _ hR6 (ne_ints hR6 W6.sl hne6)), W7.more s8, nx_ok hoS6 cc, ?_, by simp; omega⟩
        · rw [take_snoc_get hcj, way_append, hs6, endS_hd]
          simp [way, ab]
          omega
        · rw [take_snoc_get hcj, hs6]
          have go : ∀ (r : List Int) (s : WSt), endS ps s (r ++ [cc]) = nx ps (endS ps s r) cc := by
            intro r
            induction r with
            | nil => intro s; rfl
            | cons d r ih => intro s; exact ih (nx ps s d)
          rw [go]
      · rintro σ H6 ⟨u8, tw', ini', s', rfl, sm6, hR6, W6, hoS6, hs6, hi6⟩
        rw [List.take_of_length_le (Nat.le_refl _)] at hs6
        obtain ⟨dx6, ep6⟩ := W6.ob
        have e1 : s'.1 = g.1 := by rw [hs6, endS_hd, hlead.2]
        have e2 : s'.2.1 = g.2 := by rw [hs6, endS_ws, hlead.1]
        walk_at "st"
        refine ⟨x, dx6, _, rfl, ep6, wfl_no _ _ (by decide +kernel) (by decide +kernel), ?_⟩
        walk_at "st"
        refine ⟨x, lp, ls, tw', ps, ini', s', rfl, W6, ?_⟩
        walk_at "st"
        refine ⟨x, dx6, _, rfl, ep6, wfl_no _ _ (by decide +kernel) (by decide +kernel), ?_⟩
        walk_at "st"
        refine ⟨x, lp, ls, tw', ps, ini', s', rfl, W6, fun l7 h7 => ?_⟩
        have s7 : Same H6 _ := same_upd (o := .lst (iL s'.2.1)) h7
        have e7 : upd H6 l7 (.lst (iL s'.2.1)) l7 = some (.lst (iL g.2)) := by rw [upd_same, e2]
        generalize upd H6 l7 (.lst (iL s'.2.1)) = H7 at *
        walk_at "st"
        intro t8 h8
        have s8 : Same H7 _ := same_upd (o := .tup [.int s'.1, .ref l7]) h8
        have e8 : upd H7 t8 (.tup [.int s'.1, .ref l7]) t8 = some (.tup [.int g.1, .ref l7]) := by rw [upd_same, e1]
        generalize upd H7 t8 (.tup [.int s'.1, .ref l7]) = H8 at *
        walk_at "st"
        intro t9 h9
        have s9 : Same H8 _ := same_upd (o := .tup [.int g.1, .ref lg]) h9
        have e9 : upd H8 t9 (.tup [.int g.1, .ref lg]) t9 = some (.tup [.int g.1, .ref lg]) := upd_same
        generalize upd H8 t9 (.tup [.int g.1, .ref lg]) = H9 at *
        have S9 := s7.trans (s8.trans s9)
        refine i_neSame (.tuple [.int g.1, pL g.2]) (pd_tup (SqT.of (s9 _ _ e8)) (.cons pd_int (.cons (pd_ints (SqL.of (s9 _ _ (s8 _ _ e7)))) .nil))) (pd_tup (SqT.of e9) (.cons pd_int (.cons (pd_ints (SqL.of (S9 _ _ (sm6 _ _ hLg)))) .nil))) ?_
        walk_at "st"
        refine ⟨some (.int g.1), some (.ref lg), u8, tw', ini', s', ?_, sm6.trans S9, W6.more S9, hoS6, ?_, by omega⟩
        · rw [take_snoc_get hgi, rsum_snoc, ← hcur, hlw, List.take_of_length_le (Nat.le_refl _)]
        · rw [take_snoc_get hgi, lastS_snoc, e1, e2]
    · rintro σ H3 ⟨u6, u7, u8, tw, ini, s, rfl, sm, _⟩
      rw [List.take_of_length_le (by simp; omega)]
      walk_at "st"
      exact k _ sm
--SPLIT
theorem erase_iL (ns : List Int) : ∀ k : Nat, (iL ns).eraseIdx k = iL (ns.eraseIdx k) := by
  induction ns with
  | nil => intro k; rfl
  | cons x ns ih =>
    intro k
    cases k with
    | zero => rfl
    | succ k => show V.int x :: (iL ns).eraseIdx k = _; rw [ih k]; rfl
theorem erase_perm {y : Int} : ∀ {ns : List Int} {k : Nat}, ns[k]? = some y → (y :: ns.eraseIdx k).Perm ns
  | x :: ns, 0, h => by cases h; exact .refl _
  | x :: ns, k + 1, h => ((List.Perm.swap x y (ns.eraseIdx k))).trans ((erase_perm (ns := ns) (k := k) (by simpa using h)).cons x)
def spAOrder : Sp := fun vs H Q _ => ∃ (b : Addr) (pk : List Int) (n : Nat), vs = [.int n, .ref b] ∧ H b = some (.lst (iL pk)) ∧ n ≤ pk.length ∧ (∀ v ∈ pk, 0 ≤ v) ∧ n ≤ 10 ∧ ∀ (l : Addr) (o : List Int) (H' : Hp), Same H H' → H' l = some (.lst (iL o)) → o.Perm (upto n) → Q (.ref l) H'
theorem ok_law_a_order (T : Txt mg) (D : Def K mg "_law_a_order" s_law_a_order) : Callee P w K mg base "_law_a_order" 1 spAOrder := by
  refine D.ok sc_law_a_order bd_law_a_order (fun vs H Q E h => ?len) (fun f cdv A outer s H vs Q E hr h => ?body)
  case len => obtain ⟨b, pk, n, rfl, _⟩ := h; rfl
  case body =>
    obtain ⟨b, pk, n, rfl, hB, hn, hp0, hn10, k⟩ := h
    have hu := hr.units
    refine ⟨_, (pss_cons (ps_set (i := 2) sc_law_a_order.nd rfl (Or.inr rfl) (pe_listRng (by rfl) (by rfl) T.z_list (by rfl) T.z_range (pa_cons (pv 0) pa_nil)))
 (pss_one (ps_ret (by exact pe_comp (N := ["pick", "left"]) (fr := [none, some 2]) ⟨by rfl, by decide +kernel, by decide +kernel, (show ∀ y ∈ (_ : List (Str × NameKind)), y.2 = NameKind.free → (defScope s_law_a_order).names.lookup y.1 = some .cell ∨ (defScope s_law_a_order).names.lookup y.1 = some .free by decide +kernel), (fr_none (fr_some (by rfl) (by first | exact Or.inl rfl | exact Or.inr rfl) (by rfl) fr_nil))⟩ (by rfl) (pi_listK K (pe_slice (sl_listK K) (pv 1) po_none (po_some (pv 0)))) (fun _ _ _ _ => (pg_name (i := 0) (show List.Nodup (["pick", "left"] : List Str) by decide) (by rfl) (by first | exact Or.inl rfl | exact Or.inr rfl))) (fun _ _ _ _ => pifs_nil) (fun _ _ _ _ => (pe_bmK K PySem.F.plainAttrs_list PySem.F.slot_list_pop PySem.F.type_list_pop mt_popAt (pv 1) (pa_cons (pe_op op_mod (pv 0) (pe_callB (call_lenK K) (by rfl) T.z_len bt_len (pa_cons (pv 1) pa_nil))) pa_nil))) (gw_name (by rfl)))))), ?_⟩
    dsimp only [tSeq, tAsg, gName, tOp, tUn, tTest, tB, tAnd, tOr, tNot, tAndV, tOrV, tNotV, tIf, tIfS, tRet, tRetN, tDrop, tNext, tCons, tNil, tCB, tCall, tMenu, tComp, tComp2, msk, List.zipWith, iZip2, iEnum, tNoIf, tTru, tJoin, cxOf_K, tLst, tTup, tSl, tPart, tNoPart, tBM, tBM0, tChain, tC, tFor_eq, gTup, gCons, gNil, gSub, iList, iRng1, iRng2, iRng3, iTup, iZip3, tWhile, tRev, tFld, sFld, tMeth, tMethS, tMake, tAug, tPar, tNever, ipI, List.append_nil]
    try clear hu
    walk_at "st"
    refine ⟨n, rfl, by omega, fun l1 h1 => ?_⟩
    have s1 : Same H _ := same_upd (o := .lst (iL ((List.range n).map fun i : Nat => (i : Int)))) h1
    have e1 : upd H l1 (.lst (iL ((List.range n).map fun i : Nat => (i : Int)))) l1 = some (.lst (iL (upto n))) := upd_same
    generalize upd H l1 (.lst (iL ((List.range n).map fun i : Nat => (i : Int)))) = H1 at *
    walk_at "st"
    refine i_slTo (SqL.of (s1 _ _ hB)) (by omega) (fun l2 h2 => ?_)
    rw [Int.toNat_natCast]
    have s2 : Same H1 _ := same_upd (o := .lst (iL (pk.take n))) h2
    have e2 : upd H1 l2 (.lst (iL (pk.take n))) l2 = some (.lst (iL (pk.take n))) := upd_same
    generalize upd H1 l2 (.lst (iL (pk.take n))) = H2 at *
    have n12 : l2 ≠ l1 := fun z => by rw [z, e1] at h2; cases h2
    have htl : (pk.take n).length = n := by simp; omega
    walk_at "st"
    refine ⟨⟨_, SqL.of e2⟩, cp_list (xs := iL (pk.take n)) (fun i ys H3 => ∃ (done rest : List Int), ys = iL done ∧ H3 l1 = some (.lst (iL rest)) ∧ (done ++ rest).Perm (upto n) ∧ done.length = i ∧ i ≤ n ∧ ∀ b o, H2 b = some o → b ≠ l1 → H3 b = some o) ⟨[], upto n, rfl, s2 _ _ e1, .refl _, rfl, Nat.zero_le _, fun _ _ e _ => e⟩ ?_ (szlt (by simp [iL]; omega)) ?_ ?_⟩
    · rintro i ys H3 ⟨done, rest, rfl, _, _, hd, hi, kp⟩
      exact ⟨SqL.of (kp _ _ e2 n12), by simp [iL]; omega⟩
    · rintro i y ys H3 hy ⟨done, rest, rfl, hR, hP, hd, hi, kp⟩
      rw [List.getElem?_map] at hy
      obtain ⟨v, hv, rfl⟩ := Option.map_eq_some_iff.mp hy
      have hil : i < n := by have := (List.getElem?_eq_some_iff.mp hv).1; omega
      have hv0 := hp0 v (List.mem_of_mem_take (List.mem_of_getElem? hv))
      have hrl : rest.length + i = n := by have := hP.length_eq; rw [List.length_append, upto_length] at this; omega
      walk_at "st"
      refine ⟨.inl ⟨rfl, _, SqL.of hR⟩, ?_⟩
      walk_at "st"
      refine i_lenI (SqL.of hR) ?_
      have q1 := Int.emod_nonneg v (show (rest.length : Int) ≠ 0 by omega)
      have q2 := Int.emod_lt_of_pos v (show (0 : Int) < (rest.length : Int) by omega)
      walk_at "st"
      generalize v % (rest.length : Int) = kk at *
      obtain ⟨z, hz⟩ : ∃ z, rest[kk.toNat]? = some z := ⟨_, List.getElem?_eq_getElem (by omega)⟩
      refine ⟨l1, _, kk, kk.toNat, .int z, rfl, rfl, hR, by omega, by omega, seqIndex_of q1 (by simp [iL]; omega), by rw [List.getElem?_map, hz]; rfl, ?_⟩
      rw [erase_iL]
      refine ⟨done ++ [z], rest.eraseIdx kk.toNat, by simp [iL], upd_same, ?_, by simp; omega, by omega, fun b o e hb => by rw [upd_ne hb]; exact kp b o e hb⟩
      rw [List.append_assoc]
      exact (List.Perm.append_left done (erase_perm hz)).trans hP
    · rintro l4 ys H3 ⟨done, rest, rfl, hR, hP, hd, hi, kp⟩ h4
      have hd' : done.length = n := by rw [hd]; simp [iL]; omega
      have hr0 : rest = [] := by
        have := hP.length_eq
        rw [List.length_append, upto_length, hd'] at this
        exact List.length_eq_zero_iff.mp (by omega)
      rw [hr0, List.append_nil] at hP
      refine k l4 done _ (fun b o z => ?_) upd_same hP
      exact same_upd h4 _ _ (kp _ _ (s2 _ _ (s1 _ _ z)) (ne_of_none z h1))
--SPLIT
/-- a stand that is none of the list -/
def SNe (H : Hp) (ls t : Addr) (s : Std) : Prop := ∃ l, t ≠ ls ∧ l ≠ ls ∧ H t = some (.tup [.int s.1, .ref l]) ∧ H l = some (.lst (iL s.2))
theorem SNe.more {H H' : Hp} {ls t : Addr} {s : Std} (h : SNe H ls t s) (sm : Same H H') : SNe H' ls t s := by
  obtain ⟨l, h1, h2, h3, h4⟩ := h
  exact ⟨l, h1, h2, sm _ _ h3, sm _ _ h4⟩
theorem SNe.upd {H : Hp} {ls t : Addr} {s : Std} {o : HO} (h : SNe H ls t s) : SNe (upd H ls o) ls t s := by
  obtain ⟨l, h1, h2, h3, h4⟩ := h
  exact ⟨l, h1, h2, by rw [upd_ne h1]; exact h3, by rw [upd_ne h2]; exact h4⟩
theorem SNe.pair {H : Hp} {ls t : Addr} {s : Std} (h : SNe H ls t s) : PairH H t s := by
  obtain ⟨l, h1, h2, h3, h4⟩ := h
  exact ⟨l, h3, h4⟩
theorem stds_sel {H : Hp} {ts : List Addr} {sts : List Std} (start : Std) (hT : StsAt H ts sts) {x : Int} (h0 : 0 ≤ x) (h1 : x < sts.length) : ∃ t, ts[x.toNat]? = some t ∧ PairH H t (stA start sts x) := by
  have hs : sts[x.toNat]? = some (sts[x.toNat]'(by omega)) := List.getElem?_eq_getElem (by omega)
  obtain ⟨t, ht, hp⟩ := paired_get hT hs
  refine ⟨t, ht, ?_⟩
  have := stA_get (start := start) hs
  rw [show ((x.toNat : Nat) : Int) = x by omega] at this
  rw [this]
  exact hp
theorem sel_ok {ps : List Int} {start : Std} {sts : List Std} (h0 : okSt ps start) (h : ∀ s ∈ sts, okSt ps s) (o : List Int) : ∀ s ∈ o.map (stA start sts), okSt ps s := fun s hs => by
  obtain ⟨x, _, rfl⟩ := List.mem_map.mp hs
  exact stA_ok h0 h x
theorem ok_law {f : Addr} {fd : FuncData} (F : Fun K "law" "law" s_law f fd) (T : Txt mg) (Y : Own K mg) (C_law_train : Callee P w K mg base "_law_train" 2 (spTrain K)) (C_law_draws : Callee P w K mg base "_law_draws" 1 spDraws) (C_law_cell_at : Callee P w K mg base "_law_cell_at" 1 (spCellAt K)) (C_law_a_goal : Callee P w K mg base "_law_a_goal" 1 spGoal) (C_best_round : Callee P w K mg base "best_round" 11 spBestR) (C_law_a_gone : Callee P w K mg base "_law_a_gone" 9 spAGone) (C_law_a_order : Callee P w K mg base "_law_a_order" 1 spAOrder) (C_round_way : Callee P w K mg base "round_way" 10 spRound) :
    FnOk P w K mg base CX0 12 f fd ["script"] (spLaw K) := by
  refine F.ok sc_law (fun vs H Q E h => ?_) (fun cdv A outer s H vs Q E hr h => ?_)
  · obtain ⟨a, ns, rfl, _⟩ := h
    rfl
  · obtain ⟨a, ns, rfl, hS, hlen, k⟩ := h
    have hu := hr.units
    refine ⟨_, (pss_cons (ps_asg (pe_callN C_law_train (hr.mono (by decide)) (by rfl) (pa_cons (pv 0) pa_nil)) (pg_tupK K 3 (pgs_cons (pg_name (i := 1) sc_law.nd rfl (Or.inl rfl)) (pgs_cons (pg_name (i := 2) sc_law.nd rfl (Or.inl rfl)) (pgs_cons (pg_name (i := 3) sc_law.nd rfl (Or.inl rfl)) pgs_nil)))))
 (pss_cons (ps_set (i := 4) sc_law.nd rfl (Or.inl rfl) (pe_callN C_law_draws (hr.mono (by decide)) (by rfl) (pa_cons (pe_callN C_law_cell_at (hr.mono (by decide)) (by rfl) (pa_cons (pv 0) (pa_cons pe_int pa_nil))) (pa_cons pe_int (pa_cons pe_int pa_nil)))))
 (pss_cons (ps_set (i := 5) sc_law.nd rfl (Or.inr rfl) (pe_lst pa_nil))
 (pss_cons (ps_for PassesOwn.never rfl (pi_range1 (by rfl) T.z_range (pa_cons (pe_op op_mod (pe_ix (ix_K K) (pv 4) pe_int (by exact fun _ _ => rfl)) pe_int) pa_nil)) (pg_name (i := 6) sc_law.nd rfl (Or.inl rfl))
 (pss_one (ps_expr (pe_bmK K PySem.F.plainAttrs_list PySem.F.slot_list_append PySem.F.type_list_append mt_append (pv 5) (pa_cons (pe_callN C_law_a_goal (hr.mono (by decide)) (by rfl) (pa_cons (pv 1) (pa_cons (pe_callN C_law_draws (hr.mono (by decide)) (by rfl) (pa_cons (pe_callN C_law_cell_at (hr.mono (by decide)) (by rfl) (pa_cons (pv 0) (pa_cons (pe_op op_addP pe_int (pv 6)) pa_nil))) (pa_cons pe_int (pa_cons (pe_powK (r := 1000000) (by decide)) pa_nil)))) pa_nil))) pa_nil)))))
 (pss_cons (ps_asg (pe_callN C_best_round (hr.mono (by decide)) (by rfl) (pa_cons (pv 1) (pa_cons (pv 2) (pa_cons (pv 3) (pa_cons (pv 5) pa_nil))))) (pg_tupK K 2 (pgs_cons (pg_name (i := 7) sc_law.nd rfl (Or.inl rfl)) (pgs_cons (pg_name (i := 8) sc_law.nd rfl (Or.inl rfl)) pgs_nil))))
 (pss_cons (ps_if (pt_cmpR (op_neK K hu) (pe_callN C_law_a_gone (hr.mono (by decide)) (by rfl) (pa_cons (pv 1) (pa_cons (pv 2) (pa_cons (pv 3) (pa_cons (by exact pe_comp (N := ["k", "stands"]) (fr := [none, some 5]) ⟨by rfl, by decide +kernel, by decide +kernel, (show ∀ y ∈ (_ : List (Str × NameKind)), y.2 = NameKind.free → (defScope s_law).names.lookup y.1 = some .cell ∨ (defScope s_law).names.lookup y.1 = some .free by decide +kernel), (fr_none (fr_some (by rfl) (by first | exact Or.inl rfl | exact Or.inr rfl) (by rfl) fr_nil))⟩ (by rfl) (pi_listK K (pv 7)) (fun _ _ _ _ => (pg_name (i := 0) (show List.Nodup (["k", "stands"] : List Str) by decide) (by rfl) (by first | exact Or.inl rfl | exact Or.inr rfl))) (fun _ _ _ _ => pifs_nil) (fun _ _ _ _ => (pe_ix (ix_K K) (pv 1) (pv 0) (by exact fun _ _ => rfl))) (gw_name (by rfl))) pa_nil))))) (pv 8) (nomark _))
 (pss_one (ps_ret pe_bl))
 pss_nil)
 (pss_cons (ps_for PassesOwn.never rfl (pi_range1 (by rfl) T.z_range (pa_cons pe_int pa_nil)) (pg_name (i := 6) sc_law.nd rfl (Or.inl rfl))
 (pss_cons (ps_set (i := 9) sc_law.nd rfl (Or.inl rfl) (pe_callN C_law_a_order (hr.mono (by decide)) (by rfl) (pa_cons (pe_callB (call_lenK K) (by rfl) T.z_len bt_len (pa_cons (pv 5) pa_nil)) (pa_cons (pe_slice (sl_listK K) (pv 4) (po_some (pe_op op_addP pe_int (pe_op op_mulP pe_int (pv 6)))) po_none) pa_nil))))
 (pss_one (ps_if (pt_cmpR op_lt (pe_callN C_round_way (hr.mono (by decide)) (by rfl) (pa_cons (pv 1) (pa_cons (pv 2) (pa_cons (pv 3) (pa_cons (by exact pe_comp (N := ["j", "stands"]) (fr := [none, some 5]) ⟨by rfl, by decide +kernel, by decide +kernel, (show ∀ y ∈ (_ : List (Str × NameKind)), y.2 = NameKind.free → (defScope s_law).names.lookup y.1 = some .cell ∨ (defScope s_law).names.lookup y.1 = some .free by decide +kernel), (fr_none (fr_some (by rfl) (by first | exact Or.inl rfl | exact Or.inr rfl) (by rfl) fr_nil))⟩ (by rfl) (pi_listK K (pv 9)) (fun _ _ _ _ => (pg_name (i := 0) (show List.Nodup (["j", "stands"] : List Str) by decide) (by rfl) (by first | exact Or.inl rfl | exact Or.inr rfl))) (fun _ _ _ _ => pifs_nil) (fun _ _ _ _ => (pe_ix (ix_K K) (pv 1) (pv 0) (by exact fun _ _ => rfl))) (gw_name (by rfl))) pa_nil))))) (pv 8) (nomark _))
 (pss_one (ps_ret pe_bl))
 pss_nil))))
 (pss_cons (ps_set (i := 10) sc_law.nd rfl (Or.inr rfl) (pe_op op_mod (pe_callN C_law_cell_at (hr.mono (by decide)) (by rfl) (pa_cons (pv 0) (pa_cons pe_int pa_nil))) (pe_powK (r := 1000000000000000000000000000000) (by decide))))
 (pss_cons (by exact ps_setC (i := 11) sc_law.nd rfl (Or.inl rfl) (N := ["end", "goal", "by"]) (fr := [none, none, some 10]) ⟨by rfl, by decide +kernel, by decide +kernel, (show ∀ y ∈ (_ : List (Str × NameKind)), y.2 = NameKind.free → (defScope s_law).names.lookup y.1 = some .cell ∨ (defScope s_law).names.lookup y.1 = some .free by decide +kernel), (fr_none (fr_none (fr_some (by rfl) (by first | exact Or.inl rfl | exact Or.inr rfl) (by rfl) fr_nil)))⟩ (by rfl) (pi_listK K (pv 5)) (fun _ _ _ _ => (pg_tupK K 2 (pgs_cons (pg_name (i := 0) (show List.Nodup (["end", "goal", "by"] : List Str) by decide) (by rfl) (by first | exact Or.inl rfl | exact Or.inr rfl)) (pgs_cons (pg_name (i := 1) (show List.Nodup (["end", "goal", "by"] : List Str) by decide) (by rfl) (by first | exact Or.inl rfl | exact Or.inr rfl)) pgs_nil)))) (fun _ _ _ _ => pifs_nil) (fun _ _ _ _ => (pe_tup (pa_cons (pe_op op_addP (pv 0) (pv 2)) (pa_cons (by exact pe_comp (N := ["at", "by"]) (fr := [none, some 2]) ⟨by rfl, by decide +kernel, by decide +kernel, nest_frees (by decide +kernel), (fr_none (fr_some (by rfl) (nest_free (by rfl)) (by rfl) fr_nil))⟩ (by rfl) (pi_listK K (pv 1)) (fun _ _ _ _ => (pg_name (i := 0) (show List.Nodup (["at", "by"] : List Str) by decide) (by rfl) (by first | exact Or.inl rfl | exact Or.inr rfl))) (fun _ _ _ _ => pifs_nil) (fun _ _ _ _ => (pe_op op_addP (pv 0) (pv 1))) (gw_name (by rfl))) pa_nil)))) (gw_tup (gws_cons (gw_name (by rfl)) (gws_cons (gw_name (by rfl)) gws_nil))))
 (pss_cons (ps_set (i := 12) sc_law.nd rfl (Or.inl rfl) (pe_callN C_best_round (hr.mono (by decide)) (by rfl) (pa_cons (pv 1) (pa_cons (pe_op op_addP (pv 2) (pv 10)) (pa_cons (by exact pe_comp (N := ["at", "by"]) (fr := [none, some 10]) ⟨by rfl, by decide +kernel, by decide +kernel, (show ∀ y ∈ (_ : List (Str × NameKind)), y.2 = NameKind.free → (defScope s_law).names.lookup y.1 = some .cell ∨ (defScope s_law).names.lookup y.1 = some .free by decide +kernel), (fr_none (fr_some (by rfl) (by first | exact Or.inl rfl | exact Or.inr rfl) (by rfl) fr_nil))⟩ (by rfl) (pi_listK K (pv 3)) (fun _ _ _ _ => (pg_name (i := 0) (show List.Nodup (["at", "by"] : List Str) by decide) (by rfl) (by first | exact Or.inl rfl | exact Or.inr rfl))) (fun _ _ _ _ => pifs_nil) (fun _ _ _ _ => (pe_op op_addP (pv 0) (pv 1))) (gw_name (by rfl))) (pa_cons (pv 11) pa_nil))))))
 (pss_cons (ps_if (pt_cmpR (op_neK K hu) (pv 12) (pe_tup (pa_cons (pv 7) (pa_cons (pv 8) pa_nil))) (nomark _))
 (pss_one (ps_ret pe_bl))
 pss_nil)
 (pss_cons (by exact ps_setC (i := 11) sc_law.nd rfl (Or.inl rfl) (N := ["end", "goal"]) (fr := [none, none]) ⟨by rfl, by decide +kernel, by decide +kernel, (show ∀ y ∈ (_ : List (Str × NameKind)), y.2 = NameKind.free → (defScope s_law).names.lookup y.1 = some .cell ∨ (defScope s_law).names.lookup y.1 = some .free by decide +kernel), (fr_none (fr_none fr_nil))⟩ (by rfl) (pi_listK K (pv 5)) (fun _ _ _ _ => (pg_tupK K 2 (pgs_cons (pg_name (i := 0) (show List.Nodup (["end", "goal"] : List Str) by decide) (by rfl) (by first | exact Or.inl rfl | exact Or.inr rfl)) (pgs_cons (pg_name (i := 1) (show List.Nodup (["end", "goal"] : List Str) by decide) (by rfl) (by first | exact Or.inl rfl | exact Or.inr rfl)) pgs_nil)))) (fun _ _ _ _ => pifs_nil) (fun _ _ _ _ => (pe_tup (pa_cons (pe_op op_sub pe_int (pv 0)) (pa_cons (by exact pe_comp (N := ["at"]) (fr := [none]) ⟨by rfl, by decide +kernel, by decide +kernel, nest_frees (by decide +kernel), (fr_none fr_nil)⟩ (by rfl) (pi_listK K (pv 1)) (fun _ _ _ _ => (pg_name (i := 0) (show List.Nodup (["at"] : List Str) by decide) (by rfl) (by first | exact Or.inl rfl | exact Or.inr rfl))) (fun _ _ _ _ => pifs_nil) (fun _ _ _ _ => (pe_op op_sub pe_int (pv 0))) (gw_name (by rfl))) pa_nil)))) (gw_tup (gws_cons (gw_name (by rfl)) (gws_cons (gw_name (by rfl)) gws_nil))))
 (pss_cons (ps_set (i := 12) sc_law.nd rfl (Or.inl rfl) (pe_callN C_best_round (hr.mono (by decide)) (by rfl) (pa_cons (pv 1) (pa_cons (pe_op op_sub pe_int (pv 2)) (pa_cons (by exact pe_comp (N := ["at"]) (fr := [none]) ⟨by rfl, by decide +kernel, by decide +kernel, (show ∀ y ∈ (_ : List (Str × NameKind)), y.2 = NameKind.free → (defScope s_law).names.lookup y.1 = some .cell ∨ (defScope s_law).names.lookup y.1 = some .free by decide +kernel), (fr_none fr_nil)⟩ (by rfl) (pi_listK K (pv 3)) (fun _ _ _ _ => (pg_name (i := 0) (show List.Nodup (["at"] : List Str) by decide) (by rfl) (by first | exact Or.inl rfl | exact Or.inr rfl))) (fun _ _ _ _ => pifs_nil) (fun _ _ _ _ => (pe_op op_sub pe_int (pv 0))) (gw_name (by rfl))) (pa_cons (pv 11) pa_nil))))))
 (pss_cons (ps_if (pt_cmpR (op_neK K hu) (pv 12) (pe_tup (pa_cons (pv 7) (pa_cons (pv 8) pa_nil))) (nomark _))
 (pss_one (ps_ret pe_bl))
 pss_nil)
 (pss_cons (ps_set (i := 13) sc_law.nd rfl (Or.inl rfl) (pe_callN C_law_draws (hr.mono (by decide)) (by rfl) (pa_cons (pe_callN C_law_cell_at (hr.mono (by decide)) (by rfl) (pa_cons (pv 0) (pa_cons pe_int pa_nil))) (pa_cons pe_int (pa_cons (pe_powK (r := 1000000) (by decide)) pa_nil)))))
 (pss_cons (ps_set (i := 14) sc_law.nd rfl (Or.inl rfl) (pe_op op_addP (pv 5) (pe_lst (pa_cons (pe_callN C_law_a_goal (hr.mono (by decide)) (by rfl) (pa_cons (pv 1) (pa_cons (pv 13) pa_nil))) pa_nil))))
 (pss_one (ps_ret (pe_cmpR op_ge (pe_ix (ix_K K) (pe_callN C_best_round (hr.mono (by decide)) (by rfl) (pa_cons (pv 1) (pa_cons (pv 2) (pa_cons (pv 3) (pa_cons (pv 14) pa_nil))))) pe_int (by exact fun _ _ => rfl)) (pv 8) (nomark _)))))))))))))))))))), ?_⟩
    dsimp only [tSeq, tAsg, gName, tOp, tUn, tTest, tB, tAnd, tOr, tNot, tAndV, tOrV, tNotV, tIf, tIfS, tRet, tRetN, tDrop, tNext, tCons, tNil, tCB, tCall, tMenu, tComp, tComp2, msk, List.zipWith, iZip2, iEnum, tNoIf, tTru, tJoin, cxOf_K, tLst, tTup, tSl, tPart, tNoPart, tBM, tBM0, tChain, tC, tFor_eq, gTup, gCons, gNil, gSub, iList, iRng1, iRng2, iRng3, iTup, iZip3, tWhile, tRev, tFld, sFld, tMeth, tMethS, tMake, tAug, tPar, tNever, ipI, List.append_nil]
    try clear hu
    walk_at "st"
    refine ⟨a, ns, rfl, hS, fun tt lp lw_ ps ws hd H1 _ Np Nw _ hTT ht hs => ?_⟩
    have hPl := Np.at_
    have hWl := Nw.at_
    have S1 := Np.sm
    have hps : ps.length ≤ 12 := ht.2.1
    have hwl : ws.length ≤ 12 := by rw [hs.1]; exact hps
    have hst : okSt ps (hd, ws) := hs
    walk_at "st"
    refine ⟨_, _, rfl, SqT.of hTT, rfl, _, _, rfl, _, _, rfl, _, _, rfl, rfl, ?_⟩
    walk_at "st"
    refine ⟨a, ns, 2, rfl, S1.seq hS, by decide, fun c2 => ?_⟩
    walk_at "st"
    refine ⟨c2, 40, 1000, rfl, by decide, by decide, by decide, by decide, fun lk_ H2 pk N2 l2 b2 => ?_⟩
    have hpkl : pk.length = 40 := by omega
    have hpk0 : ∀ v ∈ pk, 0 ≤ v := fun v hv => (b2 v hv).1
    have S2 := S1.trans N2.sm
    replace hPl := N2.sm _ _ hPl
    replace hWl := N2.sm _ _ hWl
    have hPk := N2.at_
    clear hTT
    walk_at "st"
    intro ls hls
    have s3 : Same H2 _ := same_upd (o := .lst []) hls
    have e3 : upd H2 ls (.lst []) ls = some (.lst []) := upd_same
    generalize upd H2 ls (.lst []) = H3 at *
    walk_at "st"
    refine i_ixL (SqL.of (s3 _ _ hPk)) (by omega) (by omega) (fun v0 _ m0 => ?_)
    have r1 := Int.emod_nonneg v0 (show (6 : Int) ≠ 0 by decide)
    have r2 := Int.emod_lt_of_pos v0 (show (0 : Int) < 6 by decide)
    walk_at "st"
    generalize v0 % 6 = many at *
    have nls : ∀ {b : Addr} {o : HO}, H2 b = some o → b ≠ ls := fun {b o} e z => by rw [z, hls] at e; cases e
    refine ⟨by omega, by omega, lp_range (fun i σ H4 => ∃ (u6 : Option V) (ts : List Addr) (sts : List Std), σ = [some (.ref a), some (.ref lp), some (.int hd), some (.ref lw_), some (.ref lk_), some (.ref ls), u6, none, none, none, none, none, none, none, none] ∧ Same H2 H4 ∧ H4 ls = some (.lst (ts.map V.ref)) ∧ Paired (SNe H4 ls) ts sts ∧ (∀ s ∈ sts, okSt ps s) ∧ sts.length = i) ?_ ?_ ?_⟩
    · exact ⟨_, [], [], rfl, s3, e3, .nil, by simp, rfl⟩
    · rintro i σ H4 hi ⟨u6, ts, sts, rfl, sm, hL, hT, hok, hl⟩
      have hi6 : i ≤ 6 := by omega
      have htl : ts.length = sts.length := hT.length
      walk_at "st"
      refine ⟨.inl ⟨rfl, _, SqL.of hL⟩, ?_⟩
      walk_at "st"
      refine ⟨a, ns, _, rfl, (S2.trans sm).seq hS, by omega, fun c3 => ?_⟩
      walk_at "st"
      refine ⟨c3, 26, 1000000, rfl, by decide, by decide, by decide, by decide, fun lq H5 qk N5 l5 b5 => ?_⟩
      have s5 := N5.sm
      walk_at "st"
      refine ⟨lp, lq, ps, qk, rfl, s5 _ _ (sm _ _ hPl), N5.at_, ht, by omega, fun x hx => b5 x hx, fun tg lg gs eg H6 s6 hg1 hg2 hg3 => ?_⟩
      have S6 := s5.trans s6
      have hL6 := S6 _ _ hL
      have ngt : tg ≠ ls := fun z => by rw [z, hL6] at hg1; cases hg1
      have nlg : lg ≠ ls := fun z => by
        rw [z, hL6] at hg2
        have : ts.map V.ref = iL gs := by simpa using hg2
        cases ts with
        | nil =>
          have hg0 : gs = [] := by cases gs with | nil => rfl | cons _ _ => simp [iL] at this
          have := hg3.1
          rw [hg0] at this
          have := ht.1
          simp at *
          omega
        | cons x xs => cases gs with
          | nil => simp [iL] at this
          | cons y gs => simp [iL] at this
      walk_at "st"
      refine i_app hL6 (szlt (by simp; omega)) ?_
      rw [show (ts.map V.ref ++ [V.ref tg]) = (ts ++ [tg]).map V.ref by simp]
      refine ⟨_, ts ++ [tg], sts ++ [(eg, gs)], rfl, fun b o z => by rw [upd_ne (nls z)]; exact S6 _ _ (sm b o z), upd_same, Paired.snoc (Paired.mapP hT fun _ _ e => SNe.upd (SNe.more e S6)) (SNe.upd ⟨lg, ngt, nlg, hg1, hg2⟩), fun s hs' => ?_, by simp; omega⟩
      rcases List.mem_append.mp hs' with q | q
      · exact hok s q
      · simp at q; subst q; exact hg3
    rintro σ H4 ⟨u6, ts, sts, rfl, sm, hL, hT', hok, hl⟩
    have hT : StsAt H4 ts sts := Paired.mapP hT' fun _ _ e => SNe.pair e
    clear hT' nls e3 s3 hls
    have hn5 : sts.length ≤ 5 := by omega
    have htl : ts.length = sts.length := hT.length
    have S4 := S2.trans sm
    replace hPl := sm _ _ hPl
    replace hWl := sm _ _ hWl
    replace hPk := sm _ _ hPk
    clear sm N2 S2 hl
    -- a list of the stands by numbers
    have sel : ∀ {HH : Hp} {Q' : VK} {lo : Addr} {o : List Int} {σc : St} {g : TG} {ti : TT} {te : TE}, True := trivial
    walk_at "st"
    refine ⟨lp, lw_, ls, ps, ws, hd, ts, sts, rfl, hPl, hWl, hL, hT, by omega, ht, hs, hok, fun t5 lo p H5 s5 h5 hlo hbest => ?_⟩
    replace hPl := s5 _ _ hPl
    replace hWl := s5 _ _ hWl
    replace hPk := s5 _ _ hPk
    replace hL := s5 _ _ hL
    replace hT := stsMore hT s5
    have S5 := S4.trans s5
    have hpo : ∀ x ∈ p.2, 0 ≤ x ∧ x < sts.length := fun x hx => mem_upto.mp (hbest.1.subset hx)
    have hpl : p.2.length = sts.length := by rw [hbest.1.length_eq, upto_length]
    clear S4 s5
    walk_at "st"
    refine ⟨_, _, rfl, SqT.of h5, rfl, _, _, rfl, _, _, rfl, rfl, ?_⟩
    walk_at "st"
    refine ⟨⟨_, SqL.of hlo⟩, cp_list (xs := iL p.2) (fun i ys H6 => ∃ tn : List Addr, ys = tn.map V.ref ∧ tn.length = i ∧ i ≤ p.2.length ∧ H5 = H6 ∧ StsAt H5 tn ((p.2.take i).map (stA (hd, ws) sts))) ⟨[], rfl, rfl, Nat.zero_le _, rfl, by simpa using .nil⟩ ?_ (szlt (by simp [iL]; omega)) ?_ ?_⟩
    · rintro i ys H6 ⟨tn, rfl, hnl, hi, rfl, _⟩
      exact ⟨SqL.of hlo, by simp; omega⟩
    · rintro i y ys H6 hy ⟨tn, rfl, hnl, hi, rfl, hN⟩
      rw [List.getElem?_map] at hy
      obtain ⟨x, hx, rfl⟩ := Option.map_eq_some_iff.mp hy
      have hil : i < p.2.length := (List.getElem?_eq_some_iff.mp hx).1
      obtain ⟨x0, x1⟩ := hpo x (List.mem_of_getElem? hx)
      obtain ⟨t, htx, hpx⟩ := stds_sel (hd, ws) hT x0 x1
      walk_at "st"
      refine i_ixN (SqL.of hL) x0 (v := .ref t) (by rw [List.getElem?_map, htx]; rfl) ?_
      refine ⟨tn ++ [t], by simp, by simp; omega, by omega, rfl, ?_⟩
      rw [take_snoc_get hx, List.map_append]
      exact Paired.snoc hN hpx
    rintro l6 ys H6 ⟨tn, rfl, hnl, hi, rfl, hN⟩ h6
    rw [List.take_of_length_le (by simp [iL])] at hN
    have s6 : Same H5 _ := same_upd (o := .lst (tn.map V.ref)) h6
    have e6 : upd H5 l6 (.lst (tn.map V.ref)) l6 = some (.lst (tn.map V.ref)) := upd_same
    generalize upd H5 l6 (.lst (tn.map V.ref)) = H6 at *
    walk_at "st"
    refine ⟨lp, lw_, l6, ps, ws, hd, tn, _, rfl, s6 _ _ hPl, s6 _ _ hWl, e6, stsMore hN s6, ht, hs, sel_ok hst hok p.2, by simp; omega, fun H7 s7 => ?_⟩
    have ew : rsum ps (hd, ws) (p.2.map (stA (hd, ws) sts)) = p.1 := by
      have := rsum_way ps (hd, ws) sts p.2 (-1)
      rw [show stA (hd, ws) sts (-1) = (hd, ws) from rfl] at this
      rw [this, ← hbest.2.1]
    rw [ew]
    have S7 := s6.trans s7
    replace hPl := S7 _ _ hPl
    replace hWl := S7 _ _ hWl
    replace hPk := S7 _ _ hPk
    replace hL := S7 _ _ hL
    replace hlo := S7 _ _ hlo
    replace hT := stsMore hT S7
    replace S5 := S5.trans S7
    clear S7 s6 s7 hN e6 h6 hnl hi h5 sel
    walk_at "st"
    rw [decide_eq_true rfl]
    walk_at "st"
    refine ⟨by omega, by omega, lp_range (fun i σ H8 => ∃ (u6 u9 : Option V), σ = [some (.ref a), some (.ref lp), some (.int hd), some (.ref lw_), some (.ref lk_), some (.ref ls), u6, some (.ref lo), some (.int p.1), u9, none, none, none, none, none] ∧ Same H7 H8) ⟨_, _, rfl, Same.refl _⟩ ?_ ?_⟩
    · rintro i σ H8 hi ⟨u6, u9, rfl, sm⟩
      have hi4 : i < 4 := by simpa using hi
      have hL8 := sm _ _ hL
      have hT8 := stsMore hT sm
      walk_at "st"
      refine i_len (SqL.of hL8) ?_
      walk_at "st"
      refine i_mulI (cmul_l (by decide) (by decide)) ?_
      walk_at "st"
      refine i_slFrom (SqL.of (sm _ _ hPk)) (by omega) (fun l9 h9 => ?_)
      have s9 : Same H8 _ := same_upd (o := .lst (iL (pk.drop (1 + 8 * (0 + (i : Int))).toNat))) h9
      have e9 : upd H8 l9 (.lst (iL (pk.drop (1 + 8 * (0 + (i : Int))).toNat))) l9 = some (.lst (iL (pk.drop (1 + 8 * (0 + (i : Int))).toNat))) := upd_same
      generalize upd H8 l9 (.lst (iL (pk.drop (1 + 8 * (0 + (i : Int))).toNat))) = H9 at *
      walk_at "st"
      refine ⟨l9, _, sts.length, by simp [htl], e9, by simp; omega, fun v hv => hpk0 v (List.mem_of_mem_drop hv), by omega, fun l10 o H10 s10 hl10 hperm => ?_⟩
      have S10 := sm.trans (s9.trans s10)
      have hL10 := S10 _ _ hL
      have hT10 := stsMore hT S10
      have hoo : ∀ x ∈ o, 0 ≤ x ∧ x < sts.length := fun x hx => mem_upto.mp (hperm.subset hx)
      have hol : o.length = sts.length := by rw [hperm.length_eq, upto_length]
      walk_at "st"
      refine ⟨⟨_, SqL.of hl10⟩, cp_list (xs := iL o) (fun i ys H6 => ∃ tn : List Addr, ys = tn.map V.ref ∧ tn.length = i ∧ i ≤ (o).length ∧ H10 = H6 ∧ StsAt H10 tn (((o).take i).map (stA (hd, ws) sts))) ⟨[], rfl, rfl, Nat.zero_le _, rfl, by simpa using .nil⟩ ?_ (szlt (by simp [iL]; omega)) ?_ ?_⟩
      · rintro i ys H6 ⟨tn, rfl, hnl, hi, rfl, _⟩
        exact ⟨SqL.of hl10, by simp; omega⟩
      · rintro i y ys H6 hy ⟨tn, rfl, hnl, hi, rfl, hN⟩
        rw [List.getElem?_map] at hy
        obtain ⟨x, hx, rfl⟩ := Option.map_eq_some_iff.mp hy
        have hil : i < (o).length := (List.getElem?_eq_some_iff.mp hx).1
        obtain ⟨x0, x1⟩ := hoo x (List.mem_of_getElem? hx)
        obtain ⟨t, htx, hpx⟩ := stds_sel (hd, ws) hT10 x0 x1
        walk_at "st"
        refine i_ixN (SqL.of hL10) x0 (v := .ref t) (by rw [List.getElem?_map, htx]; rfl) ?_
        refine ⟨tn ++ [t], by simp, by simp; omega, by omega, rfl, ?_⟩
        rw [take_snoc_get hx, List.map_append]
        exact Paired.snoc hN hpx
      rintro l11 ys H11 ⟨tn, rfl, hnl, hi', rfl, hN⟩ h11
      rw [List.take_of_length_le (by simp [iL])] at hN
      have s11 : Same H10 _ := same_upd (o := .lst (tn.map V.ref)) h11
      have e11 : upd H10 l11 (.lst (tn.map V.ref)) l11 = some (.lst (tn.map V.ref)) := upd_same
      generalize upd H10 l11 (.lst (tn.map V.ref)) = H11 at *
      have S11 := S10.trans s11
      walk_at "st"
      refine ⟨lp, lw_, l11, ps, ws, hd, tn, _, rfl, S11 _ _ hPl, S11 _ _ hWl, e11, stsMore hN s11, by simp; omega, ht, hs, sel_ok hst hok o, fun H12 s12 => ?_⟩
      have ew2 : rsum ps (hd, ws) (o.map (stA (hd, ws) sts)) = wayO (Dw ps (hd, ws) sts) (-1) o := by
        have := rsum_way ps (hd, ws) sts o (-1)
        rw [show stA (hd, ws) sts (-1) = (hd, ws) from rfl] at this
        exact this
      have hle := best_le hbest hperm
      rw [ew2]
      walk_at "st"
      refine i_if (fun g => absurd g (by omega)) (fun _ => ?_)
      exact ⟨_, _, rfl, S11.trans s12⟩
    rintro σ H8 ⟨u6', u9, rfl, sm⟩
    replace hPl := sm _ _ hPl
    replace hWl := sm _ _ hWl
    replace hPk := sm _ _ hPk
    replace hL := sm _ _ hL
    replace hlo := sm _ _ hlo
    replace hT := stsMore hT sm
    replace S5 := S5.trans sm
    clear sm
    walk_at "st"
    refine ⟨a, ns, 2, rfl, S5.seq hS, by decide, fun c5 => ?_⟩
    walk_at "st"
    generalize c5 % 1000000000000000000000000000000 = bym at *
    refine ⟨⟨_, SqL.of hL⟩, cp_list (xs := ts.map V.ref) (fun i ys HA => ∃ tn : List Addr, ys = tn.map V.ref ∧ tn.length = i ∧ Same H8 HA ∧ StsAt HA tn ((sts.take i).map (shS bym))) ⟨[], rfl, rfl, Same.refl _, by simpa using .nil⟩ ?_ (szlt (by simp; omega)) ?_ ?_⟩
    · rintro i ys HA ⟨tn, rfl, hnl, sm, _⟩
      exact ⟨SqL.of (sm _ _ hL), by simp; omega⟩
    · rintro i y ys HA hy ⟨tn, rfl, hnl, sm, hN⟩
      rw [List.getElem?_map] at hy
      obtain ⟨t, hti, rfl⟩ := Option.map_eq_some_iff.mp hy
      obtain ⟨g, hgi, lg, hTg, hLg⟩ := paired_getL hT hti
      have hgl : g.2.length ≤ 12 := by rw [(hok g (List.mem_of_getElem? hgi)).1]; exact hps
      walk_at "st"
      refine ⟨_, _, rfl, SqT.of (sm _ _ hTg), rfl, _, _, rfl, _, _, rfl, rfl, ?_⟩
      walk_at "st"
      refine ⟨⟨_, SqL.of (sm _ _ hLg)⟩, cp_list (xs := iL g.2) (fun j zs HB => zs = iL ((g.2.map (· + bym)).take j) ∧ j ≤ g.2.length ∧ HA = HB) ⟨by simp, Nat.zero_le _, rfl⟩ ?_ (szlt (by simp [iL]; omega)) ?_ ?_⟩
      · rintro j zs HB ⟨rfl, hj, rfl⟩
        exact ⟨SqL.of (sm _ _ hLg), by simp [iL]; omega⟩
      · rintro j y zs HB hy ⟨rfl, hj, rfl⟩
        rw [List.getElem?_map] at hy
        obtain ⟨z, hz, rfl⟩ := Option.map_eq_some_iff.mp hy
        have hjl : j < g.2.length := (List.getElem?_eq_some_iff.mp hz).1
        walk_at "st"
        refine ⟨?_, by omega, rfl⟩
        rw [take_snoc_get (show (g.2.map (· + bym))[j]? = some (z + bym) by rw [List.getElem?_map, hz]; rfl)]
        simp [iL]
      · rintro l12 zs HB ⟨rfl, hj, rfl⟩ h12
        rw [List.take_of_length_le (by simp [iL])]
        have s12 : Same HA _ := same_upd (o := .lst (iL (g.2.map (· + bym)))) h12
        have e12 : upd HA l12 (.lst (iL (g.2.map (· + bym)))) l12 = some (.lst (iL (g.2.map (· + bym)))) := upd_same
        generalize upd HA l12 (.lst (iL (g.2.map (· + bym)))) = HC at *
        walk_at "st"
        intro t13 h13
        have s13 := same_upd (o := .tup [.int (g.1 + bym), .ref l12]) h13
        refine ⟨tn ++ [t13], by simp, by simp; omega, sm.trans (s12.trans s13), ?_⟩
        rw [take_snoc_get hgi, List.map_append]
        exact Paired.snoc (stsMore hN (s12.trans s13)) ⟨l12, upd_same, s13 _ _ e12⟩
    rintro l1 ys HA ⟨tn1, rfl, hnl1, sm1, hN1⟩ h1
    rw [List.take_of_length_le (by simp; omega)] at hN1
    have s1 : Same HA _ := same_upd (o := .lst (tn1.map V.ref)) h1
    have e1 : upd HA l1 (.lst (tn1.map V.ref)) l1 = some (.lst (tn1.map V.ref)) := upd_same
    generalize upd HA l1 (.lst (tn1.map V.ref)) = HD1 at *
    have SD1 := sm1.trans s1
    replace hN1 := stsMore hN1 s1
    replace hPl := SD1 _ _ hPl
    replace hWl := SD1 _ _ hWl
    replace hPk := SD1 _ _ hPk
    replace hL := SD1 _ _ hL
    replace hlo := SD1 _ _ hlo
    replace hT := stsMore hT SD1
    replace S5 := S5.trans SD1
    clear sm1 s1 SD1 h1
    walk_at "st"
    refine ⟨⟨_, SqL.of hWl⟩, cp_list (xs := iL ws) (fun j zs HB => zs = iL ((ws.map (· + bym)).take j) ∧ j ≤ ws.length ∧ HD1 = HB) ⟨by simp, Nat.zero_le _, rfl⟩ ?_ (szlt (by simp [iL]; omega)) ?_ ?_⟩
    · rintro j zs HB ⟨rfl, hj, rfl⟩
      exact ⟨SqL.of hWl, by simp [iL]; omega⟩
    · rintro j y zs HB hy ⟨rfl, hj, rfl⟩
      rw [List.getElem?_map] at hy
      obtain ⟨z, hz, rfl⟩ := Option.map_eq_some_iff.mp hy
      have hjl : j < ws.length := (List.getElem?_eq_some_iff.mp hz).1
      walk_at "st"
      refine ⟨?_, by omega, rfl⟩
      rw [take_snoc_get (show (ws.map (· + bym))[j]? = some (z + bym) by rw [List.getElem?_map, hz]; rfl)]
      simp [iL]
    rintro lx1 zs HB ⟨rfl, hj1, rfl⟩ hx1
    rw [List.take_of_length_le (by simp [iL])]
    have sx1 : Same HD1 _ := same_upd (o := .lst (iL (ws.map (· + bym)))) hx1
    have ex1 : upd HD1 lx1 (.lst (iL (ws.map (· + bym)))) lx1 = some (.lst (iL (ws.map (· + bym)))) := upd_same
    generalize upd HD1 lx1 (.lst (iL (ws.map (· + bym)))) = HE1 at *
    have hokm1 : ∀ s ∈ sts.map (shS bym), okSt ps s := fun s hs' => by
      obtain ⟨z, hz, rfl⟩ := List.mem_map.mp hs'
      exact ok_sh bym (hok z hz)
    walk_at "st"
    refine ⟨lp, lx1, l1, ps, ws.map (· + bym), hd + bym, tn1, _, rfl, sx1 _ _ hPl, ex1, sx1 _ _ e1, stsMore hN1 sx1, by simp; omega, ht, ok_sh bym hst, hokm1, fun tf1 lf1 q1 HF1 sf1 hf1 hlf1 hb1 => ?_⟩
    have hb1' : IsBest (Dw ps (hd, ws) sts) (-1) (upto sts.length) q1 := by
      have e := Dw_sh ht hst hok bym
      rw [List.length_map] at hb1
      have hb2 : IsBest (Dw ps ((shS bym) (hd, ws)) (sts.map (shS bym))) (-1) (upto sts.length) q1 := hb1
      rw [e] at hb2
      exact hb2
    obtain rfl := hb1'.uniq hbest
    have SF1 := sx1.trans sf1
    replace hPl := SF1 _ _ hPl
    replace hWl := SF1 _ _ hWl
    replace hPk := SF1 _ _ hPk
    replace hL := SF1 _ _ hL
    replace hlo := SF1 _ _ hlo
    replace hT := stsMore hT SF1
    replace S5 := S5.trans SF1
    walk_at "st"
    intro tq1 hq1
    have sq1 : Same HF1 _ := same_upd (o := .tup [.ref lo, .int q1.1]) hq1
    have eq1 : upd HF1 tq1 (.tup [.ref lo, .int q1.1]) tq1 = some (.tup [.ref lo, .int q1.1]) := upd_same
    generalize upd HF1 tq1 (.tup [.ref lo, .int q1.1]) = HG1 at *
    replace hPl := sq1 _ _ hPl
    replace hWl := sq1 _ _ hWl
    replace hPk := sq1 _ _ hPk
    replace hL := sq1 _ _ hL
    replace hlo := sq1 _ _ hlo
    replace hT := stsMore hT sq1
    replace S5 := S5.trans sq1
    refine i_neSame (.tuple [pL q1.2, .int q1.1]) (pd_tup (SqT.of (sq1 _ _ hf1)) (.cons (pd_ints (SqL.of (sq1 _ _ hlf1))) (.cons pd_int .nil))) (pd_tup (SqT.of eq1) (.cons (pd_ints (SqL.of hlo)) (.cons pd_int .nil))) ?_
    clear sx1 sf1 SF1 sq1 eq1 ex1 hf1 hlf1 hx1 hq1 hb1
    walk_at "st"
    refine ⟨⟨_, SqL.of hL⟩, cp_list (xs := ts.map V.ref) (fun i ys HA => ∃ tn : List Addr, ys = tn.map V.ref ∧ tn.length = i ∧ Same HG1 HA ∧ StsAt HA tn ((sts.take i).map ovS)) ⟨[], rfl, rfl, Same.refl _, by simpa using .nil⟩ ?_ (szlt (by simp; omega)) ?_ ?_⟩
    · rintro i ys HA ⟨tn, rfl, hnl, sm, _⟩
      exact ⟨SqL.of (sm _ _ hL), by simp; omega⟩
    · rintro i y ys HA hy ⟨tn, rfl, hnl, sm, hN⟩
      rw [List.getElem?_map] at hy
      obtain ⟨t, hti, rfl⟩ := Option.map_eq_some_iff.mp hy
      obtain ⟨g, hgi, lg, hTg, hLg⟩ := paired_getL hT hti
      have hgl : g.2.length ≤ 12 := by rw [(hok g (List.mem_of_getElem? hgi)).1]; exact hps
      walk_at "st"
      refine ⟨_, _, rfl, SqT.of (sm _ _ hTg), rfl, _, _, rfl, _, _, rfl, rfl, ?_⟩
      walk_at "st"
      refine ⟨⟨_, SqL.of (sm _ _ hLg)⟩, cp_list (xs := iL g.2) (fun j zs HB => zs = iL ((g.2.map (0 - ·)).take j) ∧ j ≤ g.2.length ∧ HA = HB) ⟨by simp, Nat.zero_le _, rfl⟩ ?_ (szlt (by simp [iL]; omega)) ?_ ?_⟩
      · rintro j zs HB ⟨rfl, hj, rfl⟩
        exact ⟨SqL.of (sm _ _ hLg), by simp [iL]; omega⟩
      · rintro j y zs HB hy ⟨rfl, hj, rfl⟩
        rw [List.getElem?_map] at hy
        obtain ⟨z, hz, rfl⟩ := Option.map_eq_some_iff.mp hy
        have hjl : j < g.2.length := (List.getElem?_eq_some_iff.mp hz).1
        walk_at "st"
        refine ⟨?_, by omega, rfl⟩
        rw [take_snoc_get (show (g.2.map (0 - ·))[j]? = some (0 - z) by rw [List.getElem?_map, hz]; rfl)]
        simp [iL]
      · rintro l12 zs HB ⟨rfl, hj, rfl⟩ h12
        rw [List.take_of_length_le (by simp [iL])]
        have s12 : Same HA _ := same_upd (o := .lst (iL (g.2.map (0 - ·)))) h12
        have e12 : upd HA l12 (.lst (iL (g.2.map (0 - ·)))) l12 = some (.lst (iL (g.2.map (0 - ·)))) := upd_same
        generalize upd HA l12 (.lst (iL (g.2.map (0 - ·)))) = HC at *
        walk_at "st"
        intro t13 h13
        have s13 := same_upd (o := .tup [.int (0 - g.1), .ref l12]) h13
        refine ⟨tn ++ [t13], by simp, by simp; omega, sm.trans (s12.trans s13), ?_⟩
        rw [take_snoc_get hgi, List.map_append]
        exact Paired.snoc (stsMore hN (s12.trans s13)) ⟨l12, upd_same, s13 _ _ e12⟩
    rintro l2 ys HA ⟨tn2, rfl, hnl2, sm2, hN2⟩ h2
    rw [List.take_of_length_le (by simp; omega)] at hN2
    have s2 : Same HA _ := same_upd (o := .lst (tn2.map V.ref)) h2
    have e2 : upd HA l2 (.lst (tn2.map V.ref)) l2 = some (.lst (tn2.map V.ref)) := upd_same
    generalize upd HA l2 (.lst (tn2.map V.ref)) = HD2 at *
    have SD2 := sm2.trans s2
    replace hN2 := stsMore hN2 s2
    replace hPl := SD2 _ _ hPl
    replace hWl := SD2 _ _ hWl
    replace hPk := SD2 _ _ hPk
    replace hL := SD2 _ _ hL
    replace hlo := SD2 _ _ hlo
    replace hT := stsMore hT SD2
    replace S5 := S5.trans SD2
    clear sm2 s2 SD2 h2
    walk_at "st"
    refine ⟨⟨_, SqL.of hWl⟩, cp_list (xs := iL ws) (fun j zs HB => zs = iL ((ws.map (0 - ·)).take j) ∧ j ≤ ws.length ∧ HD2 = HB) ⟨by simp, Nat.zero_le _, rfl⟩ ?_ (szlt (by simp [iL]; omega)) ?_ ?_⟩
    · rintro j zs HB ⟨rfl, hj, rfl⟩
      exact ⟨SqL.of hWl, by simp [iL]; omega⟩
    · rintro j y zs HB hy ⟨rfl, hj, rfl⟩
      rw [List.getElem?_map] at hy
      obtain ⟨z, hz, rfl⟩ := Option.map_eq_some_iff.mp hy
      have hjl : j < ws.length := (List.getElem?_eq_some_iff.mp hz).1
      walk_at "st"
      refine ⟨?_, by omega, rfl⟩
      rw [take_snoc_get (show (ws.map (0 - ·))[j]? = some (0 - z) by rw [List.getElem?_map, hz]; rfl)]
      simp [iL]
    rintro lx2 zs HB ⟨rfl, hj2, rfl⟩ hx2
    rw [List.take_of_length_le (by simp [iL])]
    have sx2 : Same HD2 _ := same_upd (o := .lst (iL (ws.map (0 - ·)))) hx2
    have ex2 : upd HD2 lx2 (.lst (iL (ws.map (0 - ·)))) lx2 = some (.lst (iL (ws.map (0 - ·)))) := upd_same
    generalize upd HD2 lx2 (.lst (iL (ws.map (0 - ·)))) = HE2 at *
    have hokm2 : ∀ s ∈ sts.map ovS, okSt ps s := fun s hs' => by
      obtain ⟨z, hz, rfl⟩ := List.mem_map.mp hs'
      exact ok_ov (hok z hz)
    walk_at "st"
    refine ⟨lp, lx2, l2, ps, ws.map (0 - ·), 0 - hd, tn2, _, rfl, sx2 _ _ hPl, ex2, sx2 _ _ e2, stsMore hN2 sx2, by simp; omega, ht, ok_ov hst, hokm2, fun tf2 lf2 q2 HF2 sf2 hf2 hlf2 hb2 => ?_⟩
    have hb2' : IsBest (Dw ps (hd, ws) sts) (-1) (upto sts.length) q2 := by
      have e := Dw_ov ht hst hok
      rw [List.length_map] at hb2
      have hb2 : IsBest (Dw ps (ovS (hd, ws)) (sts.map ovS)) (-1) (upto sts.length) q2 := hb2
      rw [e] at hb2
      exact hb2
    obtain rfl := hb2'.uniq hbest
    have SF2 := sx2.trans sf2
    replace hPl := SF2 _ _ hPl
    replace hWl := SF2 _ _ hWl
    replace hPk := SF2 _ _ hPk
    replace hL := SF2 _ _ hL
    replace hlo := SF2 _ _ hlo
    replace hT := stsMore hT SF2
    replace S5 := S5.trans SF2
    walk_at "st"
    intro tq2 hq2
    have sq2 : Same HF2 _ := same_upd (o := .tup [.ref lo, .int q2.1]) hq2
    have eq2 : upd HF2 tq2 (.tup [.ref lo, .int q2.1]) tq2 = some (.tup [.ref lo, .int q2.1]) := upd_same
    generalize upd HF2 tq2 (.tup [.ref lo, .int q2.1]) = HG2 at *
    replace hPl := sq2 _ _ hPl
    replace hWl := sq2 _ _ hWl
    replace hPk := sq2 _ _ hPk
    replace hL := sq2 _ _ hL
    replace hlo := sq2 _ _ hlo
    replace hT := stsMore hT sq2
    replace S5 := S5.trans sq2
    refine i_neSame (.tuple [pL q2.2, .int q2.1]) (pd_tup (SqT.of (sq2 _ _ hf2)) (.cons (pd_ints (SqL.of (sq2 _ _ hlf2))) (.cons pd_int .nil))) (pd_tup (SqT.of eq2) (.cons (pd_ints (SqL.of hlo)) (.cons pd_int .nil))) ?_
    clear sx2 sf2 SF2 sq2 eq2 ex2 hf2 hlf2 hx2 hq2 hb2
    walk_at "st"
    refine ⟨a, ns, 9, rfl, S5.seq hS, by decide, fun c6 => ?_⟩
    walk_at "st"
    refine ⟨c6, 26, 1000000, rfl, by decide, by decide, by decide, by decide, fun lq H5' qk N5 l5 b5 => ?_⟩
    have sN := N5.sm
    replace hPl := sN _ _ hPl
    replace hWl := sN _ _ hWl
    replace hPk := sN _ _ hPk
    replace hL := sN _ _ hL
    replace hlo := sN _ _ hlo
    replace hT := stsMore hT sN
    replace S5 := S5.trans sN
    walk_at "st"
    refine ⟨lp, lq, ps, qk, rfl, hPl, N5.at_, ht, by omega, fun x hx => b5 x hx, fun tg lg gs eg H6' s6' hg1 hg2 hg3 => ?_⟩
    replace hPl := s6' _ _ hPl
    replace hWl := s6' _ _ hWl
    replace hPk := s6' _ _ hPk
    replace hL := s6' _ _ hL
    replace hlo := s6' _ _ hlo
    replace hT := stsMore hT s6'
    replace S5 := S5.trans s6'
    walk_at "st"
    intro lu hu1
    have su : Same H6' _ := same_upd (o := .lst [.ref tg]) hu1
    have eu : upd H6' lu (.lst [.ref tg]) lu = some (.lst [.ref tg]) := upd_same
    generalize upd H6' lu (.lst [.ref tg]) = H7' at *
    replace hPl := su _ _ hPl
    replace hWl := su _ _ hWl
    replace hPk := su _ _ hPk
    replace hL := su _ _ hL
    replace hlo := su _ _ hlo
    replace hT := stsMore hT su
    replace S5 := S5.trans su
    walk_at "st"
    refine i_addL hL eu (szl (by simp; omega)) (fun lm hm => ?_)
    rw [show ts.map V.ref ++ [V.ref tg] = (ts ++ [tg]).map V.ref by simp]
    have sm' : Same H7' _ := same_upd (o := .lst ((ts ++ [tg]).map V.ref)) hm
    have em : upd H7' lm (.lst ((ts ++ [tg]).map V.ref)) lm = some (.lst ((ts ++ [tg]).map V.ref)) := upd_same
    generalize upd H7' lm (.lst ((ts ++ [tg]).map V.ref)) = H8' at *
    replace hPl := sm' _ _ hPl
    replace hWl := sm' _ _ hWl
    replace hPk := sm' _ _ hPk
    replace hL := sm' _ _ hL
    replace hlo := sm' _ _ hlo
    replace hT := stsMore hT sm'
    replace S5 := S5.trans sm'
    have hall : StsAt H8' (ts ++ [tg]) (sts ++ [(eg, gs)]) := Paired.snoc hT ⟨lg, sm' _ _ (su _ _ hg1), sm' _ _ (su _ _ hg2)⟩
    have hokA : ∀ s ∈ sts ++ [(eg, gs)], okSt ps s := fun s hs' => by
      rcases List.mem_append.mp hs' with q | q
      · exact hok s q
      · simp at q; subst q; exact hg3
    walk_at "st"
    refine ⟨lp, lw_, lm, ps, ws, hd, ts ++ [tg], sts ++ [(eg, gs)], rfl, hPl, hWl, em, hall, by simp; omega, ht, hs, hokA, fun tz lz qz H9' s9' hz1 hz2 hbz => ?_⟩
    have hle := best_more ht hst hok (show okSt ps (eg, gs) from hg3) hbest hbz
    walk_at "st"
    refine i_ixT (SqT.of hz1) (by decide) (v := .int qz.1) rfl ?_
    walk_at "st"
    rw [decide_eq_true hle]
    exact k _
end
theorem all_mk {l : PySem.W.OpenLaw} {w : World} {K : PySem.W.Frag} {h : Heap} {mg : Str → Option Value} {fa : Addr} (X : K.In h) (G : h.Ns mainGlobals mg) (hfa : mg "law" = some (.ref fa))
    {c_Walker : Addr}
    {f0 : Addr} {o0 n0 : Option Addr} {s0 : Array (Option Value)} {q0 k0 d0 p0 e0 t0 : Value}
    {f1 : Addr} {o1 n1 : Option Addr} {s1 : Array (Option Value)} {q1 k1 d1 p1 e1 t1 : Value}
    {f2 : Addr} {o2 n2 : Option Addr} {s2 : Array (Option Value)} {q2 k2 d2 p2 e2 t2 : Value}
    {f3 : Addr} {o3 n3 : Option Addr} {s3 : Array (Option Value)} {q3 k3 d3 p3 e3 t3 : Value}
    {f4 : Addr} {o4 n4 : Option Addr} {s4 : Array (Option Value)} {q4 k4 d4 p4 e4 t4 : Value}
    {f5 : Addr} {o5 n5 : Option Addr} {s5 : Array (Option Value)} {q5 k5 d5 p5 e5 t5 : Value}
    {f6 : Addr} {o6 n6 : Option Addr} {s6 : Array (Option Value)} {q6 k6 d6 p6 e6 t6 : Value}
    {f7 : Addr} {o7 n7 : Option Addr} {s7 : Array (Option Value)} {q7 k7 d7 p7 e7 t7 : Value}
    {f8 : Addr} {o8 n8 : Option Addr} {s8 : Array (Option Value)} {q8 k8 d8 p8 e8 t8 : Value}
    {f9 : Addr} {o9 n9 : Option Addr} {s9 : Array (Option Value)} {q9 k9 d9 p9 e9 t9 : Value}
    {f10 : Addr} {o10 n10 : Option Addr} {s10 : Array (Option Value)} {q10 k10 d10 p10 e10 t10 : Value}
    {f11 : Addr} {o11 n11 : Option Addr} {s11 : Array (Option Value)} {q11 k11 d11 p11 e11 t11 : Value}
    {f12 : Addr} {o12 n12 : Option Addr} {s12 : Array (Option Value)} {q12 k12 d12 p12 e12 t12 : Value}
    {f13 : Addr} {o13 n13 : Option Addr} {s13 : Array (Option Value)} {q13 k13 d13 p13 e13 t13 : Value}
    {f14 : Addr} {o14 n14 : Option Addr} {s14 : Array (Option Value)} {q14 k14 d14 p14 e14 t14 : Value}
    {f15 : Addr} {o15 n15 : Option Addr} {s15 : Array (Option Value)} {q15 k15 d15 p15 e15 t15 : Value}
    {f16 : Addr} {o16 n16 : Option Addr} {s16 : Array (Option Value)} {q16 k16 d16 p16 e16 t16 : Value}
    {f17 : Addr} {o17 n17 : Option Addr} {s17 : Array (Option Value)} {q17 k17 d17 p17 e17 t17 : Value}
    {f18 : Addr} {o18 n18 : Option Addr} {s18 : Array (Option Value)} {q18 k18 d18 p18 e18 t18 : Value}
    {f19 : Addr} {o19 n19 : Option Addr} {s19 : Array (Option Value)} {q19 k19 d19 p19 e19 t19 : Value}
    {f20 : Addr} {o20 n20 : Option Addr} {s20 : Array (Option Value)} {q20 k20 d20 p20 e20 t20 : Value}
    {f21 : Addr} {o21 n21 : Option Addr} {s21 : Array (Option Value)} {q21 k21 d21 p21 e21 t21 : Value}
    {f22 : Addr} {o22 n22 : Option Addr} {s22 : Array (Option Value)} {q22 k22 d22 p22 e22 t22 : Value}
    {f23 : Addr} {o23 n23 : Option Addr} {s23 : Array (Option Value)} {q23 k23 d23 p23 e23 t23 : Value}
    {f24 : Addr} {o24 n24 : Option Addr} {s24 : Array (Option Value)} {q24 k24 d24 p24 e24 t24 : Value}
    {f25 : Addr} {o25 n25 : Option Addr} {s25 : Array (Option Value)} {q25 k25 d25 p25 e25 t25 : Value}
    {f26 : Addr} {o26 n26 : Option Addr} {s26 : Array (Option Value)} {q26 k26 d26 p26 e26 t26 : Value}
    {f27 : Addr} {o27 n27 : Option Addr} {s27 : Array (Option Value)} {q27 k27 d27 p27 e27 t27 : Value}
    {f28 : Addr} {o28 n28 : Option Addr} {s28 : Array (Option Value)} {q28 k28 d28 p28 e28 t28 : Value}
    {f29 : Addr} {o29 n29 : Option Addr} {s29 : Array (Option Value)} {q29 k29 d29 p29 e29 t29 : Value}
    {f30 : Addr} {o30 n30 : Option Addr} {s30 : Array (Option Value)} {q30 k30 d30 p30 e30 t30 : Value}
    {f31 : Addr} {o31 n31 : Option Addr} {s31 : Array (Option Value)} {q31 k31 d31 p31 e31 t31 : Value}
    {f32 : Addr} {o32 n32 : Option Addr} {s32 : Array (Option Value)} {q32 k32 d32 p32 e32 t32 : Value}
    {f33 : Addr} {o33 n33 : Option Addr} {s33 : Array (Option Value)} {q33 k33 d33 p33 e33 t33 : Value}
    {f34 : Addr} {o34 n34 : Option Addr} {s34 : Array (Option Value)} {q34 k34 d34 p34 e34 t34 : Value}
    {f35 : Addr} {o35 n35 : Option Addr} {s35 : Array (Option Value)} {q35 k35 d35 p35 e35 t35 : Value}
    {t_MOST_PLAYS : Tok}
    (a0 : W.nsIn K mainGlobals "_law_cell_at" = some (some (.ref f0))) (l0 : K.lookup f0 = some ⟨q0, o0, .func (W.fnOf "_law_cell_at" "_law_cell_at" (defArgs s_law_cell_at) (defBody s_law_cell_at) (defScope s_law_cell_at) .none k0 d0 p0 n0 e0 t0), s0⟩) (c0 : W.codeIn K e0 "_law_cell_at" = true) (b0 : W.keepIn K (.ref f0) = true)
    (a1 : W.nsIn K mainGlobals "_law_draws" = some (some (.ref f1))) (l1 : K.lookup f1 = some ⟨q1, o1, .func (W.fnOf "_law_draws" "_law_draws" (defArgs s_law_draws) (defBody s_law_draws) (defScope s_law_draws) .none k1 d1 p1 n1 e1 t1), s1⟩) (c1 : W.codeIn K e1 "_law_draws" = true) (b1 : W.keepIn K (.ref f1) = true)
    (a2 : W.nsIn K mainGlobals "_law_train" = some (some (.ref f2))) (l2 : K.lookup f2 = some ⟨q2, o2, .func (W.fnOf "_law_train" "_law_train" (defArgs s_law_train) (defBody s_law_train) (defScope s_law_train) .none k2 d2 p2 n2 e2 t2), s2⟩) (c2 : W.codeIn K e2 "_law_train" = true) (b2 : W.keepIn K (.ref f2) = true)
    (a3 : W.nsIn K mainGlobals "is_train" = some (some (.ref f3))) (l3 : K.lookup f3 = some ⟨q3, o3, .func (W.fnOf "is_train" "is_train" (defArgs s_is_train) (defBody s_is_train) (defScope s_is_train) .none k3 d3 p3 n3 e3 t3), s3⟩) (c3 : W.codeIn K e3 "is_train" = true) (b3 : W.keepIn K (.ref f3) = true)
    (a4 : W.nsIn K mainGlobals "refuse_no_train" = some (some (.ref f4))) (l4 : K.lookup f4 = some ⟨q4, o4, .func (W.fnOf "refuse_no_train" "refuse_no_train" (defArgs s_refuse_no_train) (defBody s_refuse_no_train) (defScope s_refuse_no_train) .none k4 d4 p4 n4 e4 t4), s4⟩) (c4 : W.codeIn K e4 "refuse_no_train" = true) (b4 : W.keepIn K (.ref f4) = true)
    (a5 : W.nsIn K mainGlobals "keeps_plays" = some (some (.ref f5))) (l5 : K.lookup f5 = some ⟨q5, o5, .func (W.fnOf "keeps_plays" "keeps_plays" (defArgs s_keeps_plays) (defBody s_keeps_plays) (defScope s_keeps_plays) .none k5 d5 p5 n5 e5 t5), s5⟩) (c5 : W.codeIn K e5 "keeps_plays" = true) (b5 : W.keepIn K (.ref f5) = true)
    (a6 : W.nsIn K mainGlobals "is_stand" = some (some (.ref f6))) (l6 : K.lookup f6 = some ⟨q6, o6, .func (W.fnOf "is_stand" "is_stand" (defArgs s_is_stand) (defBody s_is_stand) (defScope s_is_stand) .none k6 d6 p6 n6 e6 t6), s6⟩) (c6 : W.codeIn K e6 "is_stand" = true) (b6 : W.keepIn K (.ref f6) = true)
    (a7 : W.nsIn K mainGlobals "refuse_no_stand" = some (some (.ref f7))) (l7 : K.lookup f7 = some ⟨q7, o7, .func (W.fnOf "refuse_no_stand" "refuse_no_stand" (defArgs s_refuse_no_stand) (defBody s_refuse_no_stand) (defScope s_refuse_no_stand) .none k7 d7 p7 n7 e7 t7), s7⟩) (c7 : W.codeIn K e7 "refuse_no_stand" = true) (b7 : W.keepIn K (.ref f7) = true)
    (a8 : W.nsIn K mainGlobals "dragged" = some (some (.ref f8))) (l8 : K.lookup f8 = some ⟨q8, o8, .func (W.fnOf "dragged" "dragged" (defArgs s_dragged) (defBody s_dragged) (defScope s_dragged) .none k8 d8 p8 n8 e8 t8), s8⟩) (c8 : W.codeIn K e8 "dragged" = true) (b8 : W.keepIn K (.ref f8) = true)
    (a9 : W.nsIn K mainGlobals "all_dragged" = some (some (.ref f9))) (l9 : K.lookup f9 = some ⟨q9, o9, .func (W.fnOf "all_dragged" "all_dragged" (defArgs s_all_dragged) (defBody s_all_dragged) (defScope s_all_dragged) .none k9 d9 p9 n9 e9 t9), s9⟩) (c9 : W.codeIn K e9 "all_dragged" = true) (b9 : W.keepIn K (.ref f9) = true)
    (a10 : W.nsIn K mainGlobals "depths_of" = some (some (.ref f10))) (l10 : K.lookup f10 = some ⟨q10, o10, .func (W.fnOf "depths_of" "depths_of" (defArgs s_depths_of) (defBody s_depths_of) (defScope s_depths_of) .none k10 d10 p10 n10 e10 t10), s10⟩) (c10 : W.codeIn K e10 "depths_of" = true) (b10 : W.keepIn K (.ref f10) = true)
    (a11 : W.nsIn K mainGlobals "pieces_of" = some (some (.ref f11))) (l11 : K.lookup f11 = some ⟨q11, o11, .func (W.fnOf "pieces_of" "pieces_of" (defArgs s_pieces_of) (defBody s_pieces_of) (defScope s_pieces_of) .none k11 d11 p11 n11 e11 t11), s11⟩) (c11 : W.codeIn K e11 "pieces_of" = true) (b11 : W.keepIn K (.ref f11) = true)
    (a12 : W.nsIn K mainGlobals "refuse_no_errand" = some (some (.ref f12))) (l12 : K.lookup f12 = some ⟨q12, o12, .func (W.fnOf "refuse_no_errand" "refuse_no_errand" (defArgs s_refuse_no_errand) (defBody s_refuse_no_errand) (defScope s_refuse_no_errand) .none k12 d12 p12 n12 e12 t12), s12⟩) (c12 : W.codeIn K e12 "refuse_no_errand" = true) (b12 : W.keepIn K (.ref f12) = true)
    (a13 : W.nsIn K mainGlobals "must_place" = some (some (.ref f13))) (l13 : K.lookup f13 = some ⟨q13, o13, .func (W.fnOf "must_place" "must_place" (defArgs s_must_place) (defBody s_must_place) (defScope s_must_place) .none k13 d13 p13 n13 e13 t13), s13⟩) (c13 : W.codeIn K e13 "must_place" = true) (b13 : W.keepIn K (.ref f13) = true)
    (a14 : W.nsIn K mainGlobals "side_to_go" = some (some (.ref f14))) (l14 : K.lookup f14 = some ⟨q14, o14, .func (W.fnOf "side_to_go" "side_to_go" (defArgs s_side_to_go) (defBody s_side_to_go) (defScope s_side_to_go) .none k14 d14 p14 n14 e14 t14), s14⟩) (c14 : W.codeIn K e14 "side_to_go" = true) (b14 : W.keepIn K (.ref f14) = true)
    (a15 : W.nsIn K mainGlobals "is_beyond" = some (some (.ref f15))) (l15 : K.lookup f15 = some ⟨q15, o15, .func (W.fnOf "is_beyond" "is_beyond" (defArgs s_is_beyond) (defBody s_is_beyond) (defScope s_is_beyond) .none k15 d15 p15 n15 e15 t15), s15⟩) (c15 : W.codeIn K e15 "is_beyond" = true) (b15 : W.keepIn K (.ref f15) = true)
    (a16 : W.nsIn K mainGlobals "first_musts" = some (some (.ref f16))) (l16 : K.lookup f16 = some ⟨q16, o16, .func (W.fnOf "first_musts" "first_musts" (defArgs s_first_musts) (defBody s_first_musts) (defScope s_first_musts) .none k16 d16 p16 n16 e16 t16), s16⟩) (c16 : W.codeIn K e16 "first_musts" = true) (b16 : W.keepIn K (.ref f16) = true)
    (a17 : W.nsIn K mainGlobals "paper_of" = some (some (.ref f17))) (l17 : K.lookup f17 = some ⟨q17, o17, .func (W.fnOf "paper_of" "paper_of" (defArgs s_paper_of) (defBody s_paper_of) (defScope s_paper_of) .none k17 d17 p17 n17 e17 t17), s17⟩) (c17 : W.codeIn K e17 "paper_of" = true) (b17 : W.keepIn K (.ref f17) = true)
    (a18 : W.nsIn K mainGlobals "least_row" = some (some (.ref f18))) (l18 : K.lookup f18 = some ⟨q18, o18, .func (W.fnOf "least_row" "least_row" (defArgs s_least_row) (defBody s_least_row) (defScope s_least_row) .none k18 d18 p18 n18 e18 t18), s18⟩) (c18 : W.codeIn K e18 "least_row" = true) (b18 : W.keepIn K (.ref f18) = true)
    (a19 : W.nsIn K mainGlobals "way_of" = some (some (.ref f19))) (l19 : K.lookup f19 = some ⟨q19, o19, .func (W.fnOf "way_of" "way_of" (defArgs s_way_of) (defBody s_way_of) (defScope s_way_of) .none k19 d19 p19 n19 e19 t19), s19⟩) (c19 : W.codeIn K e19 "way_of" = true) (b19 : W.keepIn K (.ref f19) = true)
    (a20 : W.nsIn K mainGlobals "least_of" = some (some (.ref f20))) (l20 : K.lookup f20 = some ⟨q20, o20, .func (W.fnOf "least_of" "least_of" (defArgs s_least_of) (defBody s_least_of) (defScope s_least_of) .none k20 d20 p20 n20 e20 t20), s20⟩) (c20 : W.codeIn K e20 "least_of" = true) (b20 : W.keepIn K (.ref f20) = true)
    (a21 : W.nsIn K mainGlobals "refuse_no_round" = some (some (.ref f21))) (l21 : K.lookup f21 = some ⟨q21, o21, .func (W.fnOf "refuse_no_round" "refuse_no_round" (defArgs s_refuse_no_round) (defBody s_refuse_no_round) (defScope s_refuse_no_round) .none k21 d21 p21 n21 e21 t21), s21⟩) (c21 : W.codeIn K e21 "refuse_no_round" = true) (b21 : W.keepIn K (.ref f21) = true)
    (a22 : W.nsIn K mainGlobals "ways_between" = some (some (.ref f22))) (l22 : K.lookup f22 = some ⟨q22, o22, .func (W.fnOf "ways_between" "ways_between" (defArgs s_ways_between) (defBody s_ways_between) (defScope s_ways_between) .none k22 d22 p22 n22 e22 t22), s22⟩) (c22 : W.codeIn K e22 "ways_between" = true) (b22 : W.keepIn K (.ref f22) = true)
    (a23 : W.nsIn K mainGlobals "best_from" = some (some (.ref f23))) (l23 : K.lookup f23 = some ⟨q23, o23, .func (W.fnOf "best_from" "best_from" (defArgs s_best_from) (defBody s_best_from) (defScope s_best_from) .none k23 d23 p23 n23 e23 t23), s23⟩) (c23 : W.codeIn K e23 "best_from" = true) (b23 : W.keepIn K (.ref f23) = true)
    (a24 : W.nsIn K mainGlobals "round_way" = some (some (.ref f24))) (l24 : K.lookup f24 = some ⟨q24, o24, .func (W.fnOf "round_way" "round_way" (defArgs s_round_way) (defBody s_round_way) (defScope s_round_way) .none k24 d24 p24 n24 e24 t24), s24⟩) (c24 : W.codeIn K e24 "round_way" = true) (b24 : W.keepIn K (.ref f24) = true)
    (a25 : W.nsIn K mainGlobals "best_round" = some (some (.ref f25))) (l25 : K.lookup f25 = some ⟨q25, o25, .func (W.fnOf "best_round" "best_round" (defArgs s_best_round) (defBody s_best_round) (defScope s_best_round) .none k25 d25 p25 n25 e25 t25), s25⟩) (c25 : W.codeIn K e25 "best_round" = true) (b25 : W.keepIn K (.ref f25) = true)
    (a26 : W.nsIn K mainGlobals "farther" = some (some (.ref f26))) (l26 : K.lookup f26 = some ⟨q26, o26, .func (W.fnOf "farther" "farther" (defArgs s_farther) (defBody s_farther) (defScope s_farther) .none k26 d26 p26 n26 e26 t26), s26⟩) (c26 : W.codeIn K e26 "farther" = true) (b26 : W.keepIn K (.ref f26) = true)
    (a27 : W.findIn K (.ref c_Walker) "__init__" = some (some (.ref f27))) (i27 : W.isFn K (.ref f27) = true) (l27 : K.lookup f27 = some ⟨q27, o27, .func (W.fnOf "__init__" "Walker.__init__" (defArgs s_Walker___init__) (defBody s_Walker___init__) (defScope s_Walker___init__) .none k27 d27 p27 n27 e27 t27), s27⟩) (c27 : W.codeIn K e27 "Walker.__init__" = true) (b27 : W.keepIn K (.ref f27) = true)
    (a28 : W.findIn K (.ref c_Walker) "handle" = some (some (.ref f28))) (i28 : W.isFn K (.ref f28) = true) (l28 : K.lookup f28 = some ⟨q28, o28, .func (W.fnOf "handle" "Walker.handle" (defArgs s_Walker_handle) (defBody s_Walker_handle) (defScope s_Walker_handle) .none k28 d28 p28 n28 e28 t28), s28⟩) (c28 : W.codeIn K e28 "Walker.handle" = true) (b28 : W.keepIn K (.ref f28) = true)
    (a29 : W.findIn K (.ref c_Walker) "wheels" = some (some (.ref f29))) (i29 : W.isFn K (.ref f29) = true) (l29 : K.lookup f29 = some ⟨q29, o29, .func (W.fnOf "wheels" "Walker.wheels" (defArgs s_Walker_wheels) (defBody s_Walker_wheels) (defScope s_Walker_wheels) .none k29 d29 p29 n29 e29 t29), s29⟩) (c29 : W.codeIn K e29 "Walker.wheels" = true) (b29 : W.keepIn K (.ref f29) = true)
    (a30 : W.findIn K (.ref c_Walker) "ways" = some (some (.ref f30))) (i30 : W.isFn K (.ref f30) = true) (l30 : K.lookup f30 = some ⟨q30, o30, .func (W.fnOf "ways" "Walker.ways" (defArgs s_Walker_ways) (defBody s_Walker_ways) (defScope s_Walker_ways) .none k30 d30 p30 n30 e30 t30), s30⟩) (c30 : W.codeIn K e30 "Walker.ways" = true) (b30 : W.keepIn K (.ref f30) = true)
    (a31 : W.findIn K (.ref c_Walker) "go" = some (some (.ref f31))) (i31 : W.isFn K (.ref f31) = true) (l31 : K.lookup f31 = some ⟨q31, o31, .func (W.fnOf "go" "Walker.go" (defArgs s_Walker_go) (defBody s_Walker_go) (defScope s_Walker_go) .none k31 d31 p31 n31 e31 t31), s31⟩) (c31 : W.codeIn K e31 "Walker.go" = true) (b31 : W.keepIn K (.ref f31) = true)
    (a32 : W.nsIn K mainGlobals "_law_a_goal" = some (some (.ref f32))) (l32 : K.lookup f32 = some ⟨q32, o32, .func (W.fnOf "_law_a_goal" "_law_a_goal" (defArgs s_law_a_goal) (defBody s_law_a_goal) (defScope s_law_a_goal) .none k32 d32 p32 n32 e32 t32), s32⟩) (c32 : W.codeIn K e32 "_law_a_goal" = true) (b32 : W.keepIn K (.ref f32) = true)
    (a33 : W.nsIn K mainGlobals "_law_a_gone" = some (some (.ref f33))) (l33 : K.lookup f33 = some ⟨q33, o33, .func (W.fnOf "_law_a_gone" "_law_a_gone" (defArgs s_law_a_gone) (defBody s_law_a_gone) (defScope s_law_a_gone) .none k33 d33 p33 n33 e33 t33), s33⟩) (c33 : W.codeIn K e33 "_law_a_gone" = true) (b33 : W.keepIn K (.ref f33) = true)
    (a34 : W.nsIn K mainGlobals "_law_a_order" = some (some (.ref f34))) (l34 : K.lookup f34 = some ⟨q34, o34, .func (W.fnOf "_law_a_order" "_law_a_order" (defArgs s_law_a_order) (defBody s_law_a_order) (defScope s_law_a_order) .none k34 d34 p34 n34 e34 t34), s34⟩) (c34 : W.codeIn K e34 "_law_a_order" = true) (b34 : W.keepIn K (.ref f34) = true)
    (a35 : W.nsIn K mainGlobals "law" = some (some (.ref f35))) (l35 : K.lookup f35 = some ⟨q35, o35, .func (W.fnOf "law" "law" (defArgs s_law) (defBody s_law) (defScope s_law) .none k35 d35 p35 n35 e35 t35), s35⟩) (c35 : W.codeIn K e35 "law" = true) (b35 : W.keepIn K (.ref f35) = true)
    (z_abs : PySem.W.nsIn K mainGlobals "abs" = some none)
    (z_enumerate : PySem.W.nsIn K mainGlobals "enumerate" = some none)
    (z_int : PySem.W.nsIn K mainGlobals "int" = some none)
    (z_len : PySem.W.nsIn K mainGlobals "len" = some none)
    (z_list : PySem.W.nsIn K mainGlobals "list" = some none)
    (z_min : PySem.W.nsIn K mainGlobals "min" = some none)
    (z_range : PySem.W.nsIn K mainGlobals "range" = some none)
    (z_sum : PySem.W.nsIn K mainGlobals "sum" = some none)
    (z_zip : PySem.W.nsIn K mainGlobals "zip" = some none)
    (g_MOST_PLAYS : PySem.W.nsIn K mainGlobals "MOST_PLAYS" = some (some (.int 12 t_MOST_PLAYS)))
    (w_Walker : PySem.W.nsIn K mainGlobals "Walker" = some (some (.ref c_Walker)))
    (pg_Walker : PySem.W.plainGet K c_Walker Str.empty = true)
    (hd_Walker : PySem.W.hasDictIn K c_Walker = true)
    (po_Walker : PySem.W.plainOver K c_Walker = true)
    (sa_Walker : PySem.W.findIn K (.ref c_Walker) "__setattr__" = some (some (.builtin "object.__setattr__")))
    (mk_Walker : PySem.W.makesIn K c_Walker = true)
    (kc_Walker : PySem.W.keepIn K (.ref c_Walker) = true)
    (na_Walker_plays : PySem.W.findIn K (.ref c_Walker) "plays" = some none)
    (na_Walker_states : PySem.W.findIn K (.ref c_Walker) "states" = some none) :
    ∃ fd : FuncData, (∀ (s : Shared) (v : Value), BindsTo s fd ⟨[v], []⟩ [("script", v)]) ∧ ∀ base : Heap, K.In base → base.Ns mainGlobals mg → FnOk l.prog w K mg base CX0 12 fa fd ["script"] (spLaw K) := by
  have e := hfa.symm.trans (PySem.W.mg_of X G a35)
  cases e
  have T : Txt mg := ⟨PySem.W.mg_none_of X G z_abs, PySem.W.mg_none_of X G z_enumerate, PySem.W.mg_none_of X G z_int, PySem.W.mg_none_of X G z_len, PySem.W.mg_none_of X G z_list, PySem.W.mg_none_of X G z_min, PySem.W.mg_none_of X G z_range, PySem.W.mg_none_of X G z_sum, PySem.W.mg_none_of X G z_zip, ⟨_, PySem.W.mg_of X G g_MOST_PLAYS⟩⟩
  let Y : Own K mg := ⟨c_Walker, PySem.W.mg_of X G w_Walker, pg_Walker, hd_Walker, po_Walker, sa_Walker, mk_Walker, kc_Walker, na_Walker_plays, na_Walker_states⟩
  have F_law_cell_at := fun_mk (st := s_law_cell_at) l0 c0 b0
  have D_law_cell_at : Def K mg "_law_cell_at" s_law_cell_at := ⟨_, _, F_law_cell_at, W.mg_of X G a0⟩
  have F_law_draws := fun_mk (st := s_law_draws) l1 c1 b1
  have D_law_draws : Def K mg "_law_draws" s_law_draws := ⟨_, _, F_law_draws, W.mg_of X G a1⟩
  have F_law_train := fun_mk (st := s_law_train) l2 c2 b2
  have D_law_train : Def K mg "_law_train" s_law_train := ⟨_, _, F_law_train, W.mg_of X G a2⟩
  have F_is_train := fun_mk (st := s_is_train) l3 c3 b3
  have D_is_train : Def K mg "is_train" s_is_train := ⟨_, _, F_is_train, W.mg_of X G a3⟩
  have F_refuse_no_train := fun_mk (st := s_refuse_no_train) l4 c4 b4
  have D_refuse_no_train : Def K mg "refuse_no_train" s_refuse_no_train := ⟨_, _, F_refuse_no_train, W.mg_of X G a4⟩
  have F_keeps_plays := fun_mk (st := s_keeps_plays) l5 c5 b5
  have D_keeps_plays : Def K mg "keeps_plays" s_keeps_plays := ⟨_, _, F_keeps_plays, W.mg_of X G a5⟩
  have F_is_stand := fun_mk (st := s_is_stand) l6 c6 b6
  have D_is_stand : Def K mg "is_stand" s_is_stand := ⟨_, _, F_is_stand, W.mg_of X G a6⟩
  have F_refuse_no_stand := fun_mk (st := s_refuse_no_stand) l7 c7 b7
  have D_refuse_no_stand : Def K mg "refuse_no_stand" s_refuse_no_stand := ⟨_, _, F_refuse_no_stand, W.mg_of X G a7⟩
  have F_dragged := fun_mk (st := s_dragged) l8 c8 b8
  have D_dragged : Def K mg "dragged" s_dragged := ⟨_, _, F_dragged, W.mg_of X G a8⟩
  have F_all_dragged := fun_mk (st := s_all_dragged) l9 c9 b9
  have D_all_dragged : Def K mg "all_dragged" s_all_dragged := ⟨_, _, F_all_dragged, W.mg_of X G a9⟩
  have F_depths_of := fun_mk (st := s_depths_of) l10 c10 b10
  have D_depths_of : Def K mg "depths_of" s_depths_of := ⟨_, _, F_depths_of, W.mg_of X G a10⟩
  have F_pieces_of := fun_mk (st := s_pieces_of) l11 c11 b11
  have D_pieces_of : Def K mg "pieces_of" s_pieces_of := ⟨_, _, F_pieces_of, W.mg_of X G a11⟩
  have F_refuse_no_errand := fun_mk (st := s_refuse_no_errand) l12 c12 b12
  have D_refuse_no_errand : Def K mg "refuse_no_errand" s_refuse_no_errand := ⟨_, _, F_refuse_no_errand, W.mg_of X G a12⟩
  have F_must_place := fun_mk (st := s_must_place) l13 c13 b13
  have D_must_place : Def K mg "must_place" s_must_place := ⟨_, _, F_must_place, W.mg_of X G a13⟩
  have F_side_to_go := fun_mk (st := s_side_to_go) l14 c14 b14
  have D_side_to_go : Def K mg "side_to_go" s_side_to_go := ⟨_, _, F_side_to_go, W.mg_of X G a14⟩
  have F_is_beyond := fun_mk (st := s_is_beyond) l15 c15 b15
  have D_is_beyond : Def K mg "is_beyond" s_is_beyond := ⟨_, _, F_is_beyond, W.mg_of X G a15⟩
  have F_first_musts := fun_mk (st := s_first_musts) l16 c16 b16
  have D_first_musts : Def K mg "first_musts" s_first_musts := ⟨_, _, F_first_musts, W.mg_of X G a16⟩
  have F_paper_of := fun_mk (st := s_paper_of) l17 c17 b17
  have D_paper_of : Def K mg "paper_of" s_paper_of := ⟨_, _, F_paper_of, W.mg_of X G a17⟩
  have F_least_row := fun_mk (st := s_least_row) l18 c18 b18
  have D_least_row : Def K mg "least_row" s_least_row := ⟨_, _, F_least_row, W.mg_of X G a18⟩
  have F_way_of := fun_mk (st := s_way_of) l19 c19 b19
  have D_way_of : Def K mg "way_of" s_way_of := ⟨_, _, F_way_of, W.mg_of X G a19⟩
  have F_least_of := fun_mk (st := s_least_of) l20 c20 b20
  have D_least_of : Def K mg "least_of" s_least_of := ⟨_, _, F_least_of, W.mg_of X G a20⟩
  have F_refuse_no_round := fun_mk (st := s_refuse_no_round) l21 c21 b21
  have D_refuse_no_round : Def K mg "refuse_no_round" s_refuse_no_round := ⟨_, _, F_refuse_no_round, W.mg_of X G a21⟩
  have F_ways_between := fun_mk (st := s_ways_between) l22 c22 b22
  have D_ways_between : Def K mg "ways_between" s_ways_between := ⟨_, _, F_ways_between, W.mg_of X G a22⟩
  have F_best_from := fun_mk (st := s_best_from) l23 c23 b23
  have D_best_from : Def K mg "best_from" s_best_from := ⟨_, _, F_best_from, W.mg_of X G a23⟩
  have F_round_way := fun_mk (st := s_round_way) l24 c24 b24
  have D_round_way : Def K mg "round_way" s_round_way := ⟨_, _, F_round_way, W.mg_of X G a24⟩
  have F_best_round := fun_mk (st := s_best_round) l25 c25 b25
  have D_best_round : Def K mg "best_round" s_best_round := ⟨_, _, F_best_round, W.mg_of X G a25⟩
  have F_farther := fun_mk (st := s_farther) l26 c26 b26
  have D_farther : Def K mg "farther" s_farther := ⟨_, _, F_farther, W.mg_of X G a26⟩
  have F_Walker___init__ := fun_mk (st := s_Walker___init__) l27 c27 b27
  have D_Walker___init__ : DefM K Y.c_Walker "__init__" "Walker.__init__" s_Walker___init__ := ⟨_, _, F_Walker___init__, ⟨a27, i27, b27⟩⟩
  have F_Walker_handle := fun_mk (st := s_Walker_handle) l28 c28 b28
  have D_Walker_handle : DefM K Y.c_Walker "handle" "Walker.handle" s_Walker_handle := ⟨_, _, F_Walker_handle, ⟨a28, i28, b28⟩⟩
  have F_Walker_wheels := fun_mk (st := s_Walker_wheels) l29 c29 b29
  have D_Walker_wheels : DefM K Y.c_Walker "wheels" "Walker.wheels" s_Walker_wheels := ⟨_, _, F_Walker_wheels, ⟨a29, i29, b29⟩⟩
  have F_Walker_ways := fun_mk (st := s_Walker_ways) l30 c30 b30
  have D_Walker_ways : DefM K Y.c_Walker "ways" "Walker.ways" s_Walker_ways := ⟨_, _, F_Walker_ways, ⟨a30, i30, b30⟩⟩
  have F_Walker_go := fun_mk (st := s_Walker_go) l31 c31 b31
  have D_Walker_go : DefM K Y.c_Walker "go" "Walker.go" s_Walker_go := ⟨_, _, F_Walker_go, ⟨a31, i31, b31⟩⟩
  have F_law_a_goal := fun_mk (st := s_law_a_goal) l32 c32 b32
  have D_law_a_goal : Def K mg "_law_a_goal" s_law_a_goal := ⟨_, _, F_law_a_goal, W.mg_of X G a32⟩
  have F_law_a_gone := fun_mk (st := s_law_a_gone) l33 c33 b33
  have D_law_a_gone : Def K mg "_law_a_gone" s_law_a_gone := ⟨_, _, F_law_a_gone, W.mg_of X G a33⟩
  have F_law_a_order := fun_mk (st := s_law_a_order) l34 c34 b34
  have D_law_a_order : Def K mg "_law_a_order" s_law_a_order := ⟨_, _, F_law_a_order, W.mg_of X G a34⟩
  have F_law := fun_mk (st := s_law) l35 c35 b35
  have D_law : Def K mg "law" s_law := ⟨_, _, F_law, W.mg_of X G a35⟩
  refine ⟨PySem.W.fnOf "law" "law" (defArgs s_law) (defBody s_law) (defScope s_law) .none k35 d35 p35 n35 e35 t35, fun s v => .of_eq rfl, fun base _ _ => ?_⟩
  have C_law_cell_at := ok_law_cell_at (P := l.prog) (w := w) (base := base) T D_law_cell_at 
  have C_law_draws := ok_law_draws (P := l.prog) (w := w) (base := base) T D_law_draws 
  have C_law_train := ok_law_train (P := l.prog) (w := w) (base := base) T D_law_train (C_law_draws := C_law_draws) (C_law_cell_at := C_law_cell_at)
  have C_is_train := ok_is_train (P := l.prog) (w := w) (base := base) T D_is_train 
  have C_refuse_no_train := ok_refuse_no_train (P := l.prog) (w := w) (base := base) T D_refuse_no_train (C_is_train := C_is_train)
  have C_keeps_plays := ok_keeps_plays (P := l.prog) (w := w) (base := base) T D_keeps_plays 
  have C_is_stand := ok_is_stand (P := l.prog) (w := w) (base := base) T D_is_stand (C_refuse_no_train := C_refuse_no_train) (C_keeps_plays := C_keeps_plays)
  have C_refuse_no_stand := ok_refuse_no_stand (P := l.prog) (w := w) (base := base) T D_refuse_no_stand (C_is_stand := C_is_stand)
  have C_dragged := ok_dragged (P := l.prog) (w := w) (base := base) T D_dragged 
  have C_all_dragged := ok_all_dragged (P := l.prog) (w := w) (base := base) T D_all_dragged (C_dragged := C_dragged)
  have C_depths_of := ok_depths_of (P := l.prog) (w := w) (base := base) T D_depths_of (C_refuse_no_train := C_refuse_no_train)
  have C_pieces_of := ok_pieces_of (P := l.prog) (w := w) (base := base) T D_pieces_of 
  have C_refuse_no_errand := ok_refuse_no_errand (P := l.prog) (w := w) (base := base) T D_refuse_no_errand (C_refuse_no_stand := C_refuse_no_stand)
  have C_must_place := ok_must_place (P := l.prog) (w := w) (base := base) T D_must_place (C_refuse_no_stand := C_refuse_no_stand) (C_pieces_of := C_pieces_of) (C_depths_of := C_depths_of)
  have C_side_to_go := ok_side_to_go (P := l.prog) (w := w) (base := base) T D_side_to_go (C_pieces_of := C_pieces_of)
  have C_is_beyond := ok_is_beyond (P := l.prog) (w := w) (base := base) T D_is_beyond (C_pieces_of := C_pieces_of) (C_depths_of := C_depths_of) (C_must_place := C_must_place)
  have C_first_musts := ok_first_musts (P := l.prog) (w := w) (base := base) T D_first_musts (C_side_to_go := C_side_to_go)
  have C_paper_of := ok_paper_of (P := l.prog) (w := w) (base := base) T D_paper_of (C_refuse_no_errand := C_refuse_no_errand) (C_first_musts := C_first_musts) (C_is_beyond := C_is_beyond)
  have C_least_row := ok_least_row (P := l.prog) (w := w) (base := base) T D_least_row (C_paper_of := C_paper_of) (C_must_place := C_must_place)
  have C_way_of := ok_way_of (P := l.prog) (w := w) (base := base) T D_way_of 
  have C_least_of := ok_least_of (P := l.prog) (w := w) (base := base) T D_least_of (C_way_of := C_way_of) (C_least_row := C_least_row)
  have C_refuse_no_round := ok_refuse_no_round (P := l.prog) (w := w) (base := base) T D_refuse_no_round (C_refuse_no_stand := C_refuse_no_stand)
  have C_ways_between := ok_ways_between (P := l.prog) (w := w) (base := base) T D_ways_between (C_least_of := C_least_of)
  have C_best_from := ok_best_from (P := l.prog) (w := w) (base := base) T D_best_from 
  have C_round_way := ok_round_way (P := l.prog) (w := w) (base := base) T D_round_way (C_refuse_no_round := C_refuse_no_round) (C_least_of := C_least_of)
  have C_best_round := ok_best_round (P := l.prog) (w := w) (base := base) T D_best_round (C_refuse_no_round := C_refuse_no_round) (C_ways_between := C_ways_between) (C_best_from := C_best_from)
  have C_farther := ok_farther (P := l.prog) (w := w) (base := base) T D_farther 
  have C_Walker___init__ := ok_Walker___init__ (P := l.prog) (w := w) (base := base) T Y D_Walker___init__ (C_refuse_no_stand := C_refuse_no_stand)
  have C_Walker := CalleeM.made (x := "Walker") C_Walker___init__ Y.mk_Walker Y.kc_Walker Y.m_Walker
  have C_Walker_handle := ok_Walker_handle (P := l.prog) (w := w) (base := base) T Y D_Walker_handle 
  have C_Walker_wheels := ok_Walker_wheels (P := l.prog) (w := w) (base := base) T Y D_Walker_wheels 
  have C_Walker_ways := ok_Walker_ways (P := l.prog) (w := w) (base := base) T Y D_Walker_ways 
  have C_Walker_go := ok_Walker_go (P := l.prog) (w := w) (base := base) T Y D_Walker_go (C_all_dragged := C_all_dragged) (C_farther := C_farther) (C_Walker_wheels := C_Walker_wheels)
  have C_law_a_goal := ok_law_a_goal (P := l.prog) (w := w) (base := base) T D_law_a_goal 
  have C_law_a_gone := ok_law_a_gone (P := l.prog) (w := w) (base := base) T Y D_law_a_gone (C_Walker := C_Walker) (C_least_row := C_least_row) (C_Walker_wheels := C_Walker_wheels) (C_Walker_handle := C_Walker_handle) (C_Walker_go := C_Walker_go)
  have C_law_a_order := ok_law_a_order (P := l.prog) (w := w) (base := base) T D_law_a_order 
  exact ok_law F_law T Y (C_law_train := C_law_train) (C_law_draws := C_law_draws) (C_law_cell_at := C_law_cell_at) (C_law_a_goal := C_law_a_goal) (C_best_round := C_best_round) (C_law_a_gone := C_law_a_gone) (C_law_a_order := C_law_a_order) (C_round_way := C_round_way)
theorem walk {l : PySem.W.OpenLaw} {q : Program} {loose : List Str} {XP : (Str → Option Value) → Heap → Prop} {YP : World → Heap → Prop} {d : DefRec} {K : Params → PySem.W.Frag} (hn : l.most = some 63) (hdf : d.params.defaults = [])
    (hY : ∀ (w : World) (h : Heap), YP w h → (K w.params).In h)
    (F : ∀ (w : World) (mg : Str → Option Value) (fa : Addr) (h : Heap), (K w.params).In h → h.Ns mainGlobals mg → mg d.name = some (.ref fa) →
      ∃ fd : FuncData, (∀ (s : Shared) (u : Value), BindsTo s fd ⟨[u], []⟩ [("script", u)]) ∧ ∀ base : Heap, (K w.params).In base → base.Ns mainGlobals mg → FnOk l.prog w (K w.params) mg base CX0 12 fa fd ["script"] (spLaw (K w.params))) :
    PySem.W.WalkO q loose XP YP l.row.toRowW d [] (fun f vs => PySem.call f vs) :=
  L2.walk_of (n := 63) (k := 12) (x := "script") (CX := fun _ => CX0) (sp := fun w => spLaw (K w.params)) hn (by decide) hdf ⟨rfl, by decide, by decide⟩ hY F (fun _ _ a ns hl _ hS => ⟨a, ns, rfl, hS, hl, fun _ => rfl⟩) fun _ _ _ _ _ z => z
end My
inductive PySem.W.Fast : Prop where
| tw9348511358203426059
| tw15190464544588754870
| tw15067184099166663867
| tw187375589803995741
| tw8138338830328755140
| tw14393319421458933882
| tw11173567993092710240
| tw2599491365823357938
| tw10190187730165267067
| tw13210620559883048218
| tw3993850590738495949
| tw5098388394420705165
| tw16780672935933034221
| tw12515977997747259727
| tw1600461114255103018
| tw11035503821897900578
| tw15372654803910981967
| tw5645396985331727406
| tw7487747924570596447
| tw15873104819236985373
| tw3045575137073488906
| tw14847255288765316339
| tw13627521518197856977
| tw18046225858098146776
| tw4550521366428579202
| tw2109913293936485472
| tw2532670797448160421
| tw7162705147405601606
| tw883079181798230219
| tw16321999008274274345
| tw15100780442436935505
| tw2826325164716535245
| tw16263305606219779113
| tw17094047013169895572
| tw212333300082977332
| tw3678876098497659905
| tw7777888245752112699
| tw14968555996134405768
| tw8832681517171374829
| tw2592325846689693100
| tw17419940405429574340
| tw15738925619911935451
| tw16748374056768217636
| tw17157607280057668397
| tw4934260727298716394
| tw12928351241539286559
| tw8224884089533963470
| tw1996042663836048236
| tw4547957913401448664
| tw8812871008176793057
| tw17701954000041611752
| tw4734654192517338851
| tw8211386556616406793
| tw3790848074941036854
| tw12926408554446562485
| tw11942682764581504097
| tw17795945535378708112
| tw16672398774980977215
| tw206007650246518363
| tw9818335395033733947
| tw12483795578691825776
| tw8842481280676014620
| tw206715180807860982
| tw2343456679699175680
| tw9440763898226529788
| tw12934470366488542467
| tw9564028135776661452
| tw321947665624847227
| tw11071619311974952699
| tw12423542678949977730
| tw13586650909931532106
| tw16920405229910695599
| tw18184050317117838840
| tw17909526119344196075
| tw1943859996693700359
| tw15604120407012309012
| tw17618721120100313039
| tw11167189088532847668
| tw4510981707306833426
| tw9301890786988032019
| tw11594491305456202812
| tw15545910403761881020
| tw4272358866248980810
| tw6595112230223434209
| tw9216894722169520357
| tw8163002150769348506
| tw17440441727274142854
| tw10563715389082072696
| tw15639385102271794537
| tw301619445351432640
| tw4000979575009955807
| tw9081491014653349633
| tw7941697035853667323
| tw6637928374979966061
| tw12683310582816196577
| tw7786395678594078853
| tw14057765778726349320
| tw1943851434350026393
| tw1028546815095882197
| tw1122844444900773247
| tw4177918373919796369
| tw18281092660760795593
| tw7572887286670499300
| tw8903549019923266919
| tw7946914190603368968
| tw11001123583599380726
| tw5885839490748051778
| tw13566421561968021040
| tw3540311717730491620
| tw4173776376807689068
| tw15679647760298732769
| tw14174271296834752292
| tw14352889546730071275
| tw1254446936682066674
| tw1610895270614527161
| tw15877603806799992534
| tw16725282866221253164
| tw16707118901852377475
| tw2324691897253616758
| tw13641090909544472646
| tw3528983124849758460
| tw16422963573781237860
| tw3921143118680321704
| tw9336616904525745638
| tw17852064051785261624
| tw3999991981587949756
| tw14676314703534994108
| tw1362936614044739987
| tw5390065248958519149
| tw5818239890382107253
| tw13398221778465732027
| tw16391921786245407357
| tw7821995290339446916
| tw5322879995760170276
| tw15948418188310713308
| tw3722197979385789905
| tw2287735830401827899
| tw13951268236907581452
| tw15070555285997593378
| tw9824517805385399224
| tw13340958382333089333
| tw13155895913372525364
| tw16249151645873603285
| tw6809548688410485279
| tw6874430246707985332
| tw3289141786161212622
| tw12077932384260917289
| tw2147419801934413990
| tw9199931860250891180
| tw7474939814224347437
| tw2378780259693378684
| tw2622245520044059983
| tw17756885417404704405
| tw4949151910308711178
| tw5486217892045054187
| tw7035791348442454689
| tw3474891660365634404
| tw4686477658639749709
| tw7389830043803633953
| tw6392689910575982004
| tw15879342712090526032
| tw18379615388984212427
| tw4985350953901009390
| tw16697858754430973603
| tw13004661435406799847
| tw18087742372429420056
| tw7571133584024849548
| tw7567491219486604915
| tw16064859638808589642
| tw7678156231198589138
| tw12098755268727291500
| tw13186226069564250943
| tw3982649676633003786
| tw5113069284604160438
| tw1583460513824596667
| tw15819311408319857127
| tw10063811402250037107
| tw6161863514928980564
| tw15619195796589491598
| tw4897844431463513207
| tw12894351414450890730
| tw13836074410450180101
| tw15971316855860275397
| tw10024784747249921998
| tw6141234928048435184
| tw14212813339115729512
| tw12828762823147183958
| tw5107904508441390600
| tw12650991619084327762
| tw9243680764512458119
| tw10348211355506317761
| tw10126162759566498204
| tw7586755497438572252
| tw14402610559409045099
| tw9281788163396129942
| tw2149563747037205328
| tw8083717495515228838
| tw3530464237685990581
| tw2438095164300393039
| tw7871879620831118760
| tw312940472967642701
| tw803407851164476078
| tw14300685778568151721
| tw15672270282516794023
| tw514940665930473342
| tw16630697955923464895
| tw13632758233852505117
| tw5492043063739728056
| tw8355436260902532104
| tw9373091866097992062
| tw4508002314118788118
| tw13659498654519792337
| tw5269096634799286753
| tw10131951274121246060
| tw8361172254050607269
| tw4617764755664743793
| tw5813790440635362864
| tw7413652569775088063
| tw9235592988896695395
| tw8700963864101621704
| tw4292624009662826231
| tw2324116291662844693
| tw16535849470824228179
| tw4308731046288260315
| tw15059591255489452812
| tw7806609076166334468
| tw3101276729225795630
| tw6634231056989884694
| tw6995786642022167252
| tw4357992963316989020
| tw9180553334706486006
| tw14674370856038508521
| tw8453574553512852608
| tw18276953664347050101
| tw3724155187343816074
| tw3325951205578638053
| tw1789470906247463992
| tw13821931784911444004
| tw14690703361457580366
| tw1990209201103458670
| tw9269297952999797591
| tw2120135035942812665
| tw17232144880769552673
| tw18355395965954908717
| tw15573255751001890166
| tw5293787152370523572
| tw17006799663446788947
| tw17971507199208108389
| tw15446676626121257309
| tw14101977823880670222
| tw905180912392630989
| tw14749648266040653693
| tw14020916524731751148
| tw576853075274316946
| tw6966381154116618957
| tw8695702296889187792
| tw15382602887923205196
| tw6251951655158175865
| tw2433118879390490046
| tw9395540709519081709
| tw7981067413206464840
| tw4068783428712590459
| tw2873688551031956005
| tw820064953165268229
| tw2617502598495263201
| tw13522413446619308702
| tw14037192620890028743
| tw16681998204295435599
| tw6089525849593137000
| tw916602597852309783
| tw14801121607550985850
| tw12084342288049199917
| tw12182833010018694784
| tw11929308141521499497
| tw4536130846961220859
| tw13717673735937021876
| tw12708312966643851469
| tw9192242672791922518
| tw12932475417573083000
| tw9605436601188938215
| tw3122381896291488877
| tw381781859725691055
| tw8047587992638605101
| tw13436537071337426375
| tw6866767882271903254
| tw6108891298210351756
| tw11082771290640004353
| tw11809372178676299293
| tw2817846681854106861
| tw11587543756855146451
| tw14339121943562492755
| tw13140217141021272161
| tw4955918250992640495
open PySem PySem.W PyProof.Rows
set_option maxRecDepth 100000 in
set_option maxHeartbeats 0 in
theorem PySem.Challenge.cw_lugtrain_k42_whole_rounds_gone_holds : PySem.Challenge.rw_lugtrain_k42_whole_rounds_gone.Holds := by
  w_on; o_law; k_head; (case hw => w_witness2)
  k_fill
  refine My.walk (l := PySem.Challenge.rw_lugtrain_k42_whole_rounds_gone) rfl rfl (fun w h Y => PySem.W.kIn_of Y) ?F
  case F =>
    intro w mg fa h KX G hmg
    refine' My.all_mk KX G hmg ?a0 ?l0 ?c0 ?b0 ?a1 ?l1 ?c1 ?b1 ?a2 ?l2 ?c2 ?b2 ?a3 ?l3 ?c3 ?b3 ?a4 ?l4 ?c4 ?b4 ?a5 ?l5 ?c5 ?b5 ?a6 ?l6 ?c6 ?b6 ?a7 ?l7 ?c7 ?b7 ?a8 ?l8 ?c8 ?b8 ?a9 ?l9 ?c9 ?b9 ?a10 ?l10 ?c10 ?b10 ?a11 ?l11 ?c11 ?b11 ?a12 ?l12 ?c12 ?b12 ?a13 ?l13 ?c13 ?b13 ?a14 ?l14 ?c14 ?b14 ?a15 ?l15 ?c15 ?b15 ?a16 ?l16 ?c16 ?b16 ?a17 ?l17 ?c17 ?b17 ?a18 ?l18 ?c18 ?b18 ?a19 ?l19 ?c19 ?b19 ?a20 ?l20 ?c20 ?b20 ?a21 ?l21 ?c21 ?b21 ?a22 ?l22 ?c22 ?b22 ?a23 ?l23 ?c23 ?b23 ?a24 ?l24 ?c24 ?b24 ?a25 ?l25 ?c25 ?b25 ?a26 ?l26 ?c26 ?b26 ?a27 ?i27 ?l27 ?c27 ?b27 ?a28 ?i28 ?l28 ?c28 ?b28 ?a29 ?i29 ?l29 ?c29 ?b29 ?a30 ?i30 ?l30 ?c30 ?b30 ?a31 ?i31 ?l31 ?c31 ?b31 ?a32 ?l32 ?c32 ?b32 ?a33 ?l33 ?c33 ?b33 ?a34 ?l34 ?c34 ?b34 ?a35 ?l35 ?c35 ?b35 ?z_abs ?z_enumerate ?z_int ?z_len ?z_list ?z_min ?z_range ?z_sum ?z_zip ?g_MOST_PLAYS ?w_Walker ?pg_Walker ?hd_Walker ?po_Walker ?sa_Walker ?mk_Walker ?kc_Walker ?na_Walker_plays ?na_Walker_states
    (case w_Walker => k_is)
    (case a0 => k_is)
    (case l0 => k_is)
    (case c0 => k_is)
    (case b0 => k_is)
    (case a1 => k_is)
    (case l1 => k_is)
    (case c1 => k_is)
    (case b1 => k_is)
    (case a2 => k_is)
    (case l2 => k_is)
    (case c2 => k_is)
    (case b2 => k_is)
    (case a3 => k_is)
    (case l3 => k_is)
    (case c3 => k_is)
    (case b3 => k_is)
    (case a4 => k_is)
    (case l4 => k_is)
    (case c4 => k_is)
    (case b4 => k_is)
    (case a5 => k_is)
    (case l5 => k_is)
    (case c5 => k_is)
    (case b5 => k_is)
    (case a6 => k_is)
    (case l6 => k_is)
    (case c6 => k_is)
    (case b6 => k_is)
    (case a7 => k_is)
    (case l7 => k_is)
    (case c7 => k_is)
    (case b7 => k_is)
    (case a8 => k_is)
    (case l8 => k_is)
    (case c8 => k_is)
    (case b8 => k_is)
    (case a9 => k_is)
    (case l9 => k_is)
    (case c9 => k_is)
    (case b9 => k_is)
    (case a10 => k_is)
    (case l10 => k_is)
    (case c10 => k_is)
    (case b10 => k_is)
    (case a11 => k_is)
    (case l11 => k_is)
    (case c11 => k_is)
    (case b11 => k_is)
    (case a12 => k_is)
    (case l12 => k_is)
    (case c12 => k_is)
    (case b12 => k_is)
    (case a13 => k_is)
    (case l13 => k_is)
    (case c13 => k_is)
    (case b13 => k_is)
    (case a14 => k_is)
    (case l14 => k_is)
    (case c14 => k_is)
    (case b14 => k_is)
    (case a15 => k_is)
    (case l15 => k_is)
    (case c15 => k_is)
    (case b15 => k_is)
    (case a16 => k_is)
    (case l16 => k_is)
    (case c16 => k_is)
    (case b16 => k_is)
    (case a17 => k_is)
    (case l17 => k_is)
    (case c17 => k_is)
    (case b17 => k_is)
    (case a18 => k_is)
    (case l18 => k_is)
    (case c18 => k_is)
    (case b18 => k_is)
    (case a19 => k_is)
    (case l19 => k_is)
    (case c19 => k_is)
    (case b19 => k_is)
    (case a20 => k_is)
    (case l20 => k_is)
    (case c20 => k_is)
    (case b20 => k_is)
    (case a21 => k_is)
    (case l21 => k_is)
    (case c21 => k_is)
    (case b21 => k_is)
    (case a22 => k_is)
    (case l22 => k_is)
    (case c22 => k_is)
    (case b22 => k_is)
    (case a23 => k_is)
    (case l23 => k_is)
    (case c23 => k_is)
    (case b23 => k_is)
    (case a24 => k_is)
    (case l24 => k_is)
    (case c24 => k_is)
    (case b24 => k_is)
    (case a25 => k_is)
    (case l25 => k_is)
    (case c25 => k_is)
    (case b25 => k_is)
    (case a26 => k_is)
    (case l26 => k_is)
    (case c26 => k_is)
    (case b26 => k_is)
    (case a27 => k_is)
    (case i27 => k_is)
    (case l27 => k_is)
    (case c27 => k_is)
    (case b27 => k_is)
    (case a28 => k_is)
    (case i28 => k_is)
    (case l28 => k_is)
    (case c28 => k_is)
    (case b28 => k_is)
    (case a29 => k_is)
    (case i29 => k_is)
    (case l29 => k_is)
    (case c29 => k_is)
    (case b29 => k_is)
    (case a30 => k_is)
    (case i30 => k_is)
    (case l30 => k_is)
    (case c30 => k_is)
    (case b30 => k_is)
    (case a31 => k_is)
    (case i31 => k_is)
    (case l31 => k_is)
    (case c31 => k_is)
    (case b31 => k_is)
    (case a32 => k_is)
    (case l32 => k_is)
    (case c32 => k_is)
    (case b32 => k_is)
    (case a33 => k_is)
    (case l33 => k_is)
    (case c33 => k_is)
    (case b33 => k_is)
    (case a34 => k_is)
    (case l34 => k_is)
    (case c34 => k_is)
    (case b34 => k_is)
    (case a35 => k_is)
    (case l35 => k_is)
    (case c35 => k_is)
    (case b35 => k_is)
    (case z_abs => k_is)
    (case z_enumerate => k_is)
    (case z_int => k_is)
    (case z_len => k_is)
    (case z_list => k_is)
    (case z_min => k_is)
    (case z_range => k_is)
    (case z_sum => k_is)
    (case z_zip => k_is)
    (case g_MOST_PLAYS => k_is)
    (case pg_Walker => k_is)
    (case hd_Walker => k_is)
    (case po_Walker => k_is)
    (case sa_Walker => k_is)
    (case mk_Walker => k_is)
    (case kc_Walker => k_is)
    (case na_Walker_plays => k_is)
    (case na_Walker_states => k_is)

