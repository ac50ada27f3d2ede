import PyProof.Rows.All
import Wide.All
import OpenK.AllK
import Wide.FinOn
import Lean
import PyProof.EqAt
import PyProof.EqKinds
import PyProof.TupleCall
import PyProof.StationsW
import PyProof.ExcAttrAll.ValueError
import PySem.Challenge.RW_lugtrain_k33_numbers_of_any_size

set_option Elab.async false
set_option linter.all false
set_option maxRecDepth 100000
/-! THE HAND LAYER, for ints, bools, texts, own classes, LISTS and tuples (index, slices, in, append, pop ..), calls, loops. Paste it whole ahead of your own text; what your proof does not reach may be deleted. -/
namespace L2
open PySem PySem.Spec PyProof.Rows

/-- a key: an int or a str -/
abbrev Key := Sum Int Str
def keyIs : Key → Value → Bool
  | .inl k, v => Value.isInt k v
  | .inr x, v => Value.isStrOf x v
def keyH (w : World) : Key → Int
  | .inl k => hashInt k
  | .inr x => hashStr w x
theorem keyIs_shape : ∀ {k : Key} {v : Value}, keyIs k v = true → (∃ i t, k = Sum.inl i ∧ v = Value.int i t) ∨ (∃ x t, k = Sum.inr x ∧ v = Value.str x t)
  | .inl i, v, h => by
    obtain ⟨t, e⟩ := Value.isInt_shape (k := i) (v := v) h
    exact .inl ⟨i, t, rfl, e⟩
  | .inr x, v, h => by
    obtain ⟨t, e⟩ := Value.isStrOf_shape (x := x) (v := v) h
    exact .inr ⟨x, t, rfl, e⟩
theorem keyIs_int (i : Int) (t : Tok) : keyIs (.inl i) (.int i t) = true := by simp [keyIs, Value.isInt]
theorem keyIs_str (x : Str) (t : Tok) : keyIs (.inr x) (.str x t) = true := by simp [keyIs, Value.isStrOf]
theorem key_ll (a b : Int) : decide ((Sum.inl a : Key) = Sum.inl b) = (a == b) := by
  by_cases e : a = b
  · subst e; simp
  · have h : ¬ (Sum.inl a : Key) = Sum.inl b := fun q => e (Sum.inl.inj q)
    rw [decide_eq_false h]
    exact (beq_eq_false_iff_ne.mpr e).symm
theorem key_rr (a b : Str) : decide ((Sum.inr a : Key) = Sum.inr b) = decide (a = b) := by
  by_cases e : a = b
  · subst e; simp
  · have h : ¬ (Sum.inr a : Key) = Sum.inr b := fun q => e (Sum.inr.inj q)
    rw [decide_eq_false h, decide_eq_false e]
theorem key_lr (a : Int) (b : Str) : decide ((Sum.inl a : Key) = Sum.inr b) = false := decide_eq_false (fun q => nomatch q)
theorem key_rl (a : Str) (b : Int) : decide ((Sum.inr a : Key) = Sum.inl b) = false := decide_eq_false (fun q => nomatch q)

def mixKind (prog : Program) (w : World) : PySem.KeyKind prog w Key where
  is := keyIs
  hash := keyH w
  inj := fun v a b ha hb => by
    rcases keyIs_shape ha with ⟨i, t, rfl, rfl⟩ | ⟨x, t, rfl, rfl⟩
    · rcases keyIs_shape hb with ⟨j, u, rfl, e⟩ | ⟨y, u, rfl, e⟩
      · injection e with e1 _; rw [e1]
      · exact nomatch e
    · rcases keyIs_shape hb with ⟨j, u, rfl, e⟩ | ⟨y, u, rfl, e⟩
      · exact nomatch e
      · injection e with e1 _; rw [e1]
  byValue := fun k v h => by
    rcases keyIs_shape h with ⟨i, t, rfl, rfl⟩ | ⟨x, t, rfl, rfl⟩ <;> rfl
  pyHash := fun hv h => by
    rcases keyIs_shape hv with ⟨i, t, rfl, rfl⟩ | ⟨x, t, rfl, rfl⟩
    · exact wpAny_pyHash_int h
    · exact wpAny_pyHash_str h
  eqBool := fun hu hv h => by
    rcases keyIs_shape hu with ⟨i, t, rfl, rfl⟩ | ⟨x, t, rfl, rfl⟩
    · rcases keyIs_shape hv with ⟨j, u, rfl, rfl⟩ | ⟨y, u, rfl, rfl⟩
      · rw [key_ll] at h; exact wpAny_eqBool_int h
      · rw [key_lr] at h; exact SeqAt.EqAt.int_str i t y u _ _ _ _ h
    · rcases keyIs_shape hv with ⟨j, u, rfl, rfl⟩ | ⟨y, u, rfl, rfl⟩
      · rw [key_rl] at h; exact SeqAt.EqAt.str_int x t j u _ _ _ _ h
      · rw [key_rr] at h; exact wpAny_eqBool_str h
  «strs» := fun k x t v h => by
    rcases keyIs_shape h with ⟨i, u, rfl, e⟩ | ⟨y, u, rfl, e⟩
    · exact nomatch e
    · injection e with e1 _
      subst e1
      cases v <;> rfl

theorem mixKind_int (prog : Program) (w : World) (i : Int) (t : Tok) : (mixKind prog w).is (.inl i) (.int i t) = true := keyIs_int i t
theorem mixKind_str (prog : Program) (w : World) (x : Str) (t : Tok) : (mixKind prog w).is (.inr x) (.str x t) = true := keyIs_str x t
end L2

namespace L2
open PySem PySem.Spec PyProof.Rows

/-- a value, without the heap -/
inductive V where
  | non | bl (b : Bool) | int (i : Int) | str (x : Str) | byt (b : Array UInt8) | flt (b : UInt64) | ref (a : Addr) | ty (n : String)
  deriving DecidableEq

def RelV : V → Value → Prop
  | .non, u => u = Value.none
  | .bl b, u => u = Value.bool b
  | .int i, u => ∃ t, u = Value.int i t
  | .str x, u => ∃ t, u = Value.str x t
  | .byt b, u => ∃ t, u = Value.bytes b t
  | .flt b, u => ∃ t, u = Value.float b t
  | .ref a, u => u = Value.ref a
  | .ty n, u => u = Value.type n

abbrev Vals : List V → List Value → Prop := Paired RelV
theorem Vals.length {xs : List V} {us : List Value} (r : Vals xs us) : xs.length = us.length := Paired.length r
theorem Vals.get : ∀ {xs : List V} {us : List Value} {i : Nat} {x : V}, Vals xs us → xs[i]? = some x → ∃ u, us[i]? = some u ∧ RelV x u
  | _, _, _, _, .nil, e => by simp at e
  | _, _, 0, _, .cons r _, e => by simp at e; subst e; exact ⟨_, rfl, r⟩
  | _, _, i + 1, x, .cons _ t, e => by
    obtain ⟨u, h1, h2⟩ := Vals.get (i := i) (x := x) t (by simpa using e)
    exact ⟨u, by simpa using h1, h2⟩
theorem Vals.append : ∀ {xs ys : List V} {us ws : List Value}, Vals xs us → Vals ys ws → Vals (xs ++ ys) (us ++ ws)
  | _, _, _, _, .nil, s => s
  | _, _, _, _, .cons r t, s => .cons r (Vals.append t s)
theorem Vals.take : ∀ {xs : List V} {us : List Value} (n : Nat), Vals xs us → Vals (xs.take n) (us.take n)
  | _, _, 0, _ => .nil
  | _, _, _ + 1, .nil => .nil
  | _, _, n + 1, .cons r t => .cons r (Vals.take n t)
theorem Vals.drop : ∀ {xs : List V} {us : List Value} (n : Nat), Vals xs us → Vals (xs.drop n) (us.drop n)
  | _, _, 0, r => r
  | _, _, _ + 1, .nil => .nil
  | _, _, n + 1, .cons _ t => Vals.drop n t
def RelO : Option V → Option Value → Prop
  | some v, some u => RelV v u
  | none, none => True
  | _, _ => False
def KV {κ : Type} : List (κ × V) → List (κ × Value) → Prop := Paired fun (p : κ × V) (q : κ × Value) => p.1 = q.1 ∧ RelV p.2 q.2

/-- a key of a dict (00_mix): an int or a text -/
def kV : Key → V
  | .inl i => .int i
  | .inr x => .str x

/-- what stands at a tracked address -/
inductive HO where
  /-- a list -/
  | lst (xs : List V)
  /-- a tuple (never changes) -/
  | tup (xs : List V)
  /-- a dict whose keys are ints and texts; one whose keys are tuples of ints and texts (the empty one is both) -/
  | dK (kvs : List (Key × V)) | dT (kvs : List (List Key × V))
  /-- a set of ints: its members, its size -/
  | set (S : Int → Bool) (n : Nat)
  /-- an instance of the class at C, its dict at dx, its attributes -/
  | ins (C dx : Addr) (fs : List (Str × V))
  /-- the dict of the instance at x -/
  | own (x : Addr)
  /-- the dict of an exception -/
  | xd (fs : List (Str × V))
  /-- a bound method, f of x -/
  | met (f x : Addr)
  /-- a range object lo, lo + 1, .. below hi -/
  | rng (lo hi : Int)
  /-- a thing that is known to the object (the script; a dict while a loop walks it): read, never written while it is so -/
  | frz (o : Obj) (u : HO)
  /-- a code object's table -/
  | tbl (ps : Array Value)
  /-- any other thing, by what is true of its one object (a def of one's own: SetO a S n := HO.ext fun h => ..) -/
  | ext (φ : Heap → Prop)

abbrev Hp := Addr → Option HO
def upd (H : Hp) (a : Addr) (o : HO) : Hp := fun b => if b = a then some o else H b
theorem upd_same {H : Hp} {a : Addr} {o : HO} : upd H a o a = some o := by unfold upd; rw [if_pos rfl]
theorem upd_ne {H : Hp} {a b : Addr} {o : HO} (h : b ≠ a) : upd H a o b = H b := by unfold upd; rw [if_neg h]
theorem ne_of_none {H : Hp} {a b : Addr} {o : HO} (h : H a = some o) (h' : H b = none) : a ≠ b := by
  intro e; subst e; rw [h] at h'; cases h'

section
variable (P : Program) (w : World)
def ObjOk (H : Hp) (h : Heap) (a : Addr) : HO → Prop
  | .lst xs => xs.length ≤ sizeLine ∧ ∃ (its : List Value) (n : Nat), Vals xs its ∧ h.get? a = some { cls := .type "list", data := .seq its.toArray n }
  | .tup xs => xs.length ≤ sizeLine ∧ ∃ its : List Value, Vals xs its ∧ IsTup h a its.toArray
  | .dK kvs => kvs.length ≤ sizeLine ∧ (a == sysModules) = false ∧ ∃ vs, KV kvs vs ∧ h.DictOf (mixKind P w) a vs
  | .dT kvs => kvs.length ≤ sizeLine ∧ (a == sysModules) = false ∧ ∃ xs : List (List Key × Addr × Value),
      Paired (fun (p : List Key × V) (q : List Key × Addr × Value) => p.1 = q.1 ∧ H q.2.1 = some (.tup (p.1.map kV)) ∧ RelV p.2 q.2.2) kvs xs ∧
      ∃ o es ep, h.get? a = some o ∧ o.ExactDict ∧ o.data = .dict es ep ∧ es.toList = xs.map (entryOfKey (tupleKind (mixKind P w))) ∧ (xs.map (·.1)).Nodup
  | .set S n => h.SetOf (intKind P w) a S n
  | .ins C dx fs => H dx = some (.own a) ∧ fs.length ≤ 1000 ∧ dx ≠ a ∧ h.get? a = some (PySem.W.instObj C dx) ∧
      ∃ mA, h.Ns1 dx mA ∧ (∀ f, RelO (fs.lookup f) (mA f)) ∧ PySem.Within mA (fs.map (·.1))
  | .own _ => ∃ o, h.get? a = some o
  | .xd fs => ∃ mA, h.Ns1 a mA ∧ ∀ f, RelO (fs.lookup f) (mA f)
  | .rng lo hi => ∃ t u v, h.get? a = some { cls := .type "range", data := .fields #[.int lo t, .int hi u, .int 1 v] }
  | .frz o u => h.get? a = some o ∧ ObjOk H h a u
  | .tbl ps => h.get? a = some { cls := .none, data := .fields ps }
  | .met f x => h.get? a = some (PySem.W.methodObj (.ref f) (.ref x))
  | .ext φ => φ h ∧ (∃ o, h.get? a = some o) ∧ ∀ h1 h2 : Heap, φ h1 → (∀ o, h1.get? a = some o → h2.get? a = some o) → φ h2
/-- the abstract heap is held -/
def HOk (H : Hp) (h : Heap) : Prop := ∀ a o, H a = some o → ObjOk P w H h a o
end

section
variable {P : Program} {w : World} {H H' : Hp} {h h' : Heap} {a : Addr} {o : HO}
theorem ObjOk.lt (x : ObjOk P w H h a o) : a < h.objs.size := by
  cases o with
  | lst xs => obtain ⟨_, _, _, _, e⟩ := x; exact Heap.lt_size e
  | tup xs => obtain ⟨_, _, _, p⟩ := x; exact p.lt
  | dK kvs => obtain ⟨_, _, _, _, o, _, _, e, _⟩ := x; exact Heap.lt_size e
  | dT kvs => obtain ⟨_, _, _, _, o, _, _, e, _⟩ := x; exact Heap.lt_size e
  | set S n => obtain ⟨o, _, _, _, e, _⟩ := x; exact Heap.lt_size e
  | ins C dx fs => obtain ⟨_, _, _, e, _⟩ := x; exact Heap.lt_size e
  | own y => obtain ⟨_, e⟩ := x; exact Heap.lt_size e
  | xd fs => obtain ⟨_, ⟨_, _, _, e, _⟩, _⟩ := x; exact Heap.lt_size e
  | rng lo hi => obtain ⟨_, _, _, e⟩ := x; exact Heap.lt_size e
  | frz ob u => obtain ⟨e, _⟩ := x; exact Heap.lt_size e
  | tbl ps => exact Heap.lt_size (show h.get? a = some _ from x)
  | met f y => exact Heap.lt_size (show h.get? a = some _ from x)
  | ext φ => obtain ⟨_, ⟨_, e⟩, _⟩ := x; exact Heap.lt_size e
theorem Paired.mapP {α β : Type} {F G : α → β → Prop} : ∀ {l₁ : List α} {l₂ : List β}, Paired F l₁ l₂ → (∀ a b, F a b → G a b) → Paired G l₁ l₂
  | _, _, .nil, _ => .nil
  | _, _, .cons r t, f => .cons (f _ _ r) (Paired.mapP t f)
/-- what an object's description leans on: its own object, its own dict, the tuples -/
theorem ObjOk.stay (x : ObjOk P w H h a o) (k : ∀ b u, (b = a ∨ H b = some (.own a)) → h.get? b = some u → h'.get? b = some u)
    (ho : ∀ b, H b = some (.own a) → H' b = some (.own a)) (ht : ∀ b xs, H b = some (.tup xs) → H' b = some (.tup xs)) : ObjOk P w H' h' a o := by
  induction o with
  | lst xs => obtain ⟨z, its, n, r, e⟩ := x; exact ⟨z, its, n, r, k _ _ (.inl rfl) e⟩
  | tup xs => obtain ⟨z, its, r, ob, e, c⟩ := x; exact ⟨z, its, r, ob, k _ _ (.inl rfl) e, c⟩
  | dK kvs => obtain ⟨z, y, vs, r, ob, es, ep, e, c⟩ := x; exact ⟨z, y, vs, r, ob, es, ep, k _ _ (.inl rfl) e, c⟩
  | dT kvs =>
    obtain ⟨z, y, xs, r, ob, es, ep, e, c⟩ := x
    exact ⟨z, y, xs, Paired.mapP r fun p q z => ⟨z.1, ht _ _ z.2.1, z.2.2⟩, ob, es, ep, k _ _ (.inl rfl) e, c⟩
  | set S n => obtain ⟨ob, es, ep, t, e, c⟩ := x; exact ⟨ob, es, ep, t, k _ _ (.inl rfl) e, c⟩
  | ins C dx fs =>
    obtain ⟨d, z, ne, e, mA, ⟨od, es, ep, e2, c⟩, r⟩ := x
    exact ⟨ho _ d, z, ne, k _ _ (.inl rfl) e, mA, ⟨od, es, ep, k _ _ (.inr d) e2, c⟩, r⟩
  | own y => obtain ⟨ob, e⟩ := x; exact ⟨ob, k _ _ (.inl rfl) e⟩
  | xd fs => obtain ⟨mA, ⟨od, es, ep, e, c⟩, r⟩ := x; exact ⟨mA, ⟨od, es, ep, k _ _ (.inl rfl) e, c⟩, r⟩
  | rng lo hi => obtain ⟨t, u, v, e⟩ := x; exact ⟨t, u, v, k _ _ (.inl rfl) e⟩
  | frz ob u ih => obtain ⟨e, q⟩ := x; exact ⟨k _ _ (.inl rfl) e, ih q⟩
  | tbl ps =>
    have e : h.get? a = some { cls := .none, data := .fields ps } := x
    show h'.get? a = some { cls := .none, data := .fields ps }
    exact k a _ (.inl rfl) e
  | met f y =>
    have e : h.get? a = some (PySem.W.methodObj (.ref f) (.ref y)) := x
    show h'.get? a = some (PySem.W.methodObj (.ref f) (.ref y))
    exact k a _ (.inl rfl) e
  | ext φ => obtain ⟨p, ⟨o, e⟩, st⟩ := x; exact ⟨st _ _ p fun o q => k _ _ (.inl rfl) q, ⟨o, k _ _ (.inl rfl) e⟩, st⟩
theorem HOk.lt (x : HOk P w H h) (e : H a = some o) : a < h.objs.size := (x a o e).lt
theorem HOk.fresh (x : HOk P w H h) (e : h.objs.size ≤ a) : H a = none := by
  cases q : H a with
  | none => rfl
  | some u => exact absurd (Nat.lt_of_lt_of_le (x.lt q) e) (Nat.lt_irrefl _)
/-- every object of the heap is kept -/
theorem HOk.kept (x : HOk P w H h) (k : ∀ b u, h.get? b = some u → h'.get? b = some u) : HOk P w H h' := fun a o e =>
  (x a o e).stay (fun b u _ q => k b u q) (fun _ q => q) fun _ _ q => q
/-- a new object is laid and tracked -/
theorem HOk.laid (x : HOk P w H h) (k : ∀ b u, h.get? b = some u → h'.get? b = some u) (hp : h.objs.size ≤ a) (new : ObjOk P w (upd H a o) h' a o) : HOk P w (upd H a o) h' := fun b u e => by
  have hn := x.fresh hp
  by_cases hb : b = a
  · subst hb; rw [upd_same] at e; cases e; exact new
  · rw [upd_ne hb] at e
    exact (x b u e).stay (fun c v _ q => k c v q) (fun c q => by rw [upd_ne (ne_of_none q hn)]; exact q) fun c xs q => by rw [upd_ne (ne_of_none q hn)]; exact q
end

/-- what may be read as u: it is u, or a known u -/
def Rd (H : Hp) (a : Addr) (u : HO) : Prop := H a = some u ∨ ∃ o, H a = some (.frz o u)
theorem Rd.ok {P : Program} {w : World} {H : Hp} {h : Heap} {a : Addr} {u : HO} (r : Rd H a u) (x : HOk P w H h) : ObjOk P w H h a u := by
  rcases r with r | ⟨o, r⟩
  · exact x a u r
  · obtain ⟨_, q⟩ := x a _ r
    exact q
/-- what may be written -/
def Mut : Option HO → Prop
  | some (.lst _) => True
  | some (.dK _) => True
  | some (.dT _) => True
  | some (.set _ _) => True
  | some (.ins _ _ _) => True
  | some (.ext _) => True
  | _ => False
section
variable {P : Program} {w : World} {H : Hp} {h h' : Heap} {x e : Addr} {o' : HO}
/-- the object at e is changed: x itself, or the dict of the instance x -/
theorem HOk.write (ok : HOk P w H h) (mu : Mut (H x)) (he : e = x ∨ H e = some (.own x)) (k : ∀ b u, b ≠ e → h.get? b = some u → h'.get? b = some u) (heo : ∃ u, h'.get? e = some u)
    (new : ObjOk P w (upd H x o') h' x o') : HOk P w (upd H x o') h' := fun b u q => by
  have nown : ∀ c y, H c = some (.own y) → c ≠ x := fun c y r z => by subst z; rw [r] at mu; exact mu
  have ntup : ∀ c xs, H c = some (.tup xs) → c ≠ x := fun c xs r z => by subst z; rw [r] at mu; exact mu
  by_cases hb : b = x
  · subst hb; rw [upd_same] at q; cases q; exact new
  · rw [upd_ne hb] at q
    by_cases hbe : b = e
    · have q' : H b = some (.own x) := by
        rcases he with z | z
        · exact absurd (hbe.trans z) hb
        · rw [hbe]; exact z
      rw [q] at q'; cases q'
      obtain ⟨v, hv⟩ := heo
      exact ⟨v, by rw [hbe]; exact hv⟩
    · refine (ok b u q).stay (fun c v hc r => k c v ?_ r) (fun c r => by rw [upd_ne (nown c b r)]; exact r) fun c xs r => by rw [upd_ne (ntup c xs r)]; exact r
      rcases hc with rfl | hc
      · exact hbe
      · rintro rfl
        rcases he with z | z
        · exact nown c b hc z
        · rw [hc] at z; cases z; exact hb rfl
end

/-! ### kept unless tracked; of the frames at fs (the callers') the slots may change (an exception that passes writes there); of the records at ex (iterators) nothing is said -/
structure Un (fs ex : List Addr) (H H' : Hp) (h h' : Heap) : Prop where
  keep : ∀ b o, h.get? b = some o → H b = none → b ∉ fs → b ∉ ex → h'.get? b = some o
  slot : ∀ b o, h.get? b = some o → H b = none → b ∈ fs → b ∉ ex → ∃ sl, h'.get? b = some { o with slots := sl }
  free : ∀ b o, h.get? b = some o → H b = none → b ∉ ex → H' b = none
  there : ∀ b o, h.get? b = some o → b ∉ ex → ∃ o', h'.get? b = some o'
  tups : ∀ b xs, H b = some (.tup xs) → H' b = some (.tup xs)
  frzs : ∀ b o u, H b = some (.frz o u) → H' b = some (.frz o u)
  tbls : ∀ b ps, H b = some (.tbl ps) → ∃ more, H' b = some (.tbl (ps ++ more))
section
variable {fs fs' ex ex' : List Addr} {H H1 H2 : Hp} {h h1 h2 h' : Heap} {a x e : Addr} {o : HO}
theorem Un.any (u : Un fs ex H H1 h h1) {b : Addr} {ob : Obj} (q : h.get? b = some ob) (n : H b = none) (hx : b ∉ ex) : ∃ sl, h1.get? b = some { ob with slots := sl } := by
  by_cases hb : b ∈ fs
  · exact u.slot b ob q n hb hx
  · exact ⟨ob.slots, u.keep b ob q n hb hx⟩
theorem Un.kept (k : ∀ b u, h.get? b = some u → h'.get? b = some u) : Un fs ex H H h h' :=
  ⟨fun b ob q _ _ _ => k b ob q, fun b ob q _ _ _ => ⟨ob.slots, k b ob q⟩, fun _ _ _ n _ => n, fun b ob q _ => ⟨ob, k b ob q⟩, fun _ _ q => q, fun _ _ _ q => q, fun _ ps q => ⟨#[], by rw [q]; simp⟩⟩
theorem Un.refl : Un fs ex H H h h := Un.kept fun _ _ q => q
theorem Un.laid (k : ∀ b u, h.get? b = some u → h'.get? b = some u) (hp : h.objs.size ≤ a) (hn : H a = none) : Un fs ex H (upd H a o) h h' where
  keep := fun b u q _ _ _ => k b u q
  slot := fun b u q _ _ _ => ⟨u.slots, k b u q⟩
  free := fun b u q n _ => by rw [upd_ne (Nat.ne_of_lt (Nat.lt_of_lt_of_le (Heap.lt_size q) hp))]; exact n
  there := fun b u q _ => ⟨u, k b u q⟩
  tups := fun b xs q => by rw [upd_ne (ne_of_none q hn)]; exact q
  frzs := fun b u xs q => by rw [upd_ne (ne_of_none q hn)]; exact q
  tbls := fun b ps q => ⟨#[], by rw [upd_ne (ne_of_none q hn), q]; simp⟩
theorem Un.write (mu : Mut (H x)) (he : e = x ∨ H e = some (.own x)) (k : ∀ b u, b ≠ e → h.get? b = some u → h'.get? b = some u) (heo : ∃ u, h'.get? e = some u) : Un fs ex H (upd H x o) h h' := by
  have hx : ∀ b, H b = none → b ≠ x := fun b n z => by subst z; rw [n] at mu; exact mu
  have hb : ∀ b, H b = none → b ≠ e := fun b n z => by
    subst z
    rcases he with r | r
    · exact hx b n r
    · rw [n] at r; cases r
  have hm : ∀ b u, H b = some u → ¬ Mut (some u) → b ≠ x := fun b u q nm z => by subst z; rw [q] at mu; exact nm mu
  refine ⟨fun b u q n _ _ => k b u (hb b n) q, fun b u q n _ _ => ⟨u.slots, k b u (hb b n) q⟩, fun b u q n _ => by rw [upd_ne (hx b n)]; exact n, fun b u q _ => ?_,
    fun b xs q => by rw [upd_ne (hm b _ q fun z => z)]; exact q, fun b u xs q => by rw [upd_ne (hm b _ q fun z => z)]; exact q, fun b ps q => ⟨#[], by rw [upd_ne (hm b _ q fun z => z), q]; simp⟩⟩
  by_cases hbe : b = e
  · subst hbe; exact heo
  · exact ⟨u, k b u hbe q⟩
end

/-! ### the heap without what is tracked -/
def trk (h : Heap) (H : Hp) : List Addr := (List.range h.objs.size).filter fun a => (H a).isSome
def hidT (h : Heap) (H : Hp) : Heap := PySem.W.hideAll h (trk h H)
theorem hidT_size (h : Heap) (H : Hp) : (hidT h H).objs.size = h.objs.size := PySem.W.hideAll_size _ _
theorem hidT_get {h : Heap} {H : Hp} {b : Addr} {o : Obj} (e : h.get? b = some o) (n : H b = none) : (hidT h H).get? b = some o :=
  PySem.W.hideAll_get _ e fun hm => by
    have q : (H b).isSome = true := (List.mem_filter.mp hm).2
    rw [n] at q; simp at q
theorem of_hidT {h : Heap} {H : Hp} {b : Addr} {o : Obj} (e : (hidT h H).get? b = some o) : h.get? b = some o ∧ H b = none := by
  have e' : h.get? b = some o := PySem.W.of_hideAll (trk h H) e
  refine ⟨e', ?_⟩
  cases q : H b with
  | none => rfl
  | some x =>
    have hm : b ∈ trk h H := List.mem_filter.mpr ⟨List.mem_range.mpr (Heap.lt_size e'), by simp [q]⟩
    have z : (hidT h H).get? b = none := PySem.W.hideAll_none (trk h H) hm
    rw [z] at e; cases e

/-! ### OpenK's ledger, filled with every new object but one -/
def allNews (g h : Heap) (L : Addr) : List (Addr × Obj) := (List.range h.objs.size).filterMap fun a => if a = L ∨ (g.get? a).isSome = true then none else (h.get? a).map fun o => (a, o)
def rest (g h : Heap) (L d : Addr) : List (Addr × Obj) := (allNews g h L).filter fun p => decide (p.1 ≠ d)
end L2

namespace L2
open PySem PySem.Spec PyProof.Rows

/-- the module's facts, over the base: the heap at the law's entry without what is tracked there -/
structure Mod (K : PySem.W.Frag) (mg : Str → Option Value) (base : Heap) : Prop where
  kin : K.In base
  glob : base.Ns mainGlobals mg
  blt : ∃ mb, base.Ns builtinsNs mb ∧ ∀ x : Str, x ≠ "__name__" → mb x = bootBuiltins x
  nolimit : base.NoLimit

/-- the context: a def's body (or a comprehension's block) running. base: fixed through the whole law; s₀, H₀: the entry; outer: the frames whose slots others may change (a def's callers); stack: all frames that run;
   ex: iterators that were made ahead of the entry and are walked here (a comprehension's); fn: the names whose cells were made at the entry (a def: all; a comprehension's block: its own); calm: not within an except suite; pn: pins that every state bears; xe: what is wanted of an exception that leaves the code -/
structure Cx where
  prog : Program
  w : World
  K : PySem.W.Frag
  mg : Str → Option Value
  base : Heap
  A : Around
  N : List Str
  s₀ : Shared
  H₀ : Hp
  env : Env
  outer : List Env
  stack : List Env
  ex : List Addr
  fn : Str → Bool
  calm : Bool
  pn : List (Addr × Obj)
  xe : Value → Shared → Prop
/-- the callers' frames -/
def frs (l : List Env) : List Addr := l.filterMap (·.frame)
abbrev Cx.fs (X : Cx) : List Addr := frs X.outer

def Vis (sc : Scope) (x : Str) : Prop := sc.names.lookup x = some .local ∨ sc.names.lookup x = some .cell ∨ sc.names.lookup x = some .free
def Loc (sc : Scope) (x : Str) : Prop := sc.names.lookup x = some .local ∨ sc.names.lookup x = some .cell
def Look (env : Env) (h : Heap) (m : Str → Option Value) (x : Str) (u : Value) : Prop :=
  (env.kindOf x = some .local ∧ m x = some u) ∨ ((env.kindOf x = some .cell ∨ env.kindOf x = some .free) ∧ ∃ c, env.cells.lookup x = some c ∧ h.IsCell c (some u))

structure Cx.Ok (X : Cx) : Prop where
  mod : Mod X.K X.mg X.base
  kind : X.env.scope.kind = .function
  glob : X.env.globals = mainGlobals
  blt : X.env.builtins = builtinsNs
  above : X.s₀.heap.objs.size ≤ X.env.locals
  inj : ∀ x y c, X.env.cells.lookup x = some c → X.env.cells.lookup y = some c → x = y
  has : ∀ x, (X.env.kindOf x = some .cell ∨ X.env.kindOf x = some .free) → ∃ c, X.env.cells.lookup x = some c
  cab : ∀ x c, X.fn x = true → X.env.cells.lookup x = some c → X.s₀.heap.objs.size ≤ c
  hd : X.calm = true → X.A.handled = none
  frames : X.A.frames = some X.stack
  stk : X.stack = X.outer ∨ (X.stack = X.env :: X.outer ∧ X.env.frame = some X.env.locals)
  exf : ∀ b ∈ X.ex, b ≠ X.env.locals ∧ ∀ x c, X.env.cells.lookup x = some c → c ≠ b
  bs : ∀ b o, X.base.get? b = some o → X.s₀.heap.get? b = some o ∧ X.H₀ b = none
  bsz : X.base.objs.size ≤ X.s₀.heap.objs.size
  noex : ∀ b o, X.base.get? b = some o → b ∉ X.ex
  exfs : ∀ b ∈ X.ex, b ∉ X.fs
  funs : X.s₀.heap.FunFrames X.base X.outer
  frf : ∀ b ∈ X.fs, X.H₀ b = none

structure Inv (X : Cx) (pins : List (Addr × Obj)) (σ : List (Option V)) (H : Hp) (s : Shared) : Prop where
  ok : X.Ok
  os : s.os = X.s₀.os
  bare : AllBare s.gens
  base : Un X.fs X.ex X.H₀ H X.s₀.heap s.heap
  loc : ∃ m, s.heap.Ns X.env.locals m ∧ ∀ (i : Nat) (x : Str) (v : V), X.N[i]? = some x → σ[i]? = some (some v) → Vis X.env.scope x → ∃ u, RelV v u ∧ Look X.env s.heap m x u
  cell : ∀ x c, X.env.cells.lookup x = some c → ∃ v, s.heap.IsCell c v
  free : H X.env.locals = none
  freeC : ∀ x c, X.env.cells.lookup x = some c → H c = none
  pin : ∀ p ∈ X.pn ++ pins, s.heap.get? p.1 = some p.2 ∧ H p.1 = none ∧ p.1 ≠ X.env.locals ∧ p.1 ∉ X.fs ∧ ∀ v, p.2.data ≠ .cell v
  hok : HOk X.prog X.w H s.heap
  len : σ.length = X.N.length

section
variable {X : Cx} {pins : List (Addr × Obj)} {σ : List (Option V)} {H H' : Hp} {s : Shared} {h' : Heap}

theorem Cx.Ok.nofr (ok : X.Ok) {b : Addr} {o : Obj} (e : X.base.get? b = some o) : b ∉ X.fs := fun hb => by
  have := (ok.funs.mem hb).1
  rw [e] at this; cases this
theorem Inv.bs (I : Inv X pins σ H s) : ∀ b o, X.base.get? b = some o → s.heap.get? b = some o ∧ H b = none := fun b o e =>
  ⟨I.base.keep b o (I.ok.bs b o e).1 (I.ok.bs b o e).2 (I.ok.nofr e) (I.ok.noex b o e), I.base.free b o (I.ok.bs b o e).1 (I.ok.bs b o e).2 (I.ok.noex b o e)⟩
theorem Inv.bk (I : Inv X pins σ H s) : ∀ b o, X.base.get? b = some o → s.heap.get? b = some o := fun b o e => (I.bs b o e).1
theorem Inv.mod (I : Inv X pins σ H s) : Mod X.K X.mg X.base := I.ok.mod
theorem Inv.kIn (I : Inv X pins σ H s) : X.K.In s.heap := I.ok.mod.kin.keeps I.bk
theorem Inv.lt (I : Inv X pins σ H s) : X.env.locals < s.heap.objs.size := let ⟨_, hn, _⟩ := I.loc; hn.lt
theorem Inv.sz (I : Inv X pins σ H s) : X.s₀.heap.objs.size ≤ s.heap.objs.size := Nat.le_trans I.ok.above (Nat.le_of_lt I.lt)
theorem Inv.nofs (I : Inv X pins σ H s) {a : Addr} (h : s.heap.objs.size ≤ a) : a ∉ X.fs := fun hb => by
  obtain ⟨_, o, ho, _⟩ := I.ok.funs.mem hb
  exact absurd (Nat.lt_of_lt_of_le (Heap.lt_size ho) (Nat.le_trans I.sz h)) (Nat.lt_irrefl _)
theorem Inv.cne (I : Inv X pins σ H s) : ∀ x c, X.env.cells.lookup x = some c → c ≠ X.env.locals := fun x c e z => by
  obtain ⟨v, o, ho, hd⟩ := I.cell x c e
  obtain ⟨m, ⟨o', es, ep, ho', hd', _⟩, _⟩ := I.loc
  rw [z, ho'] at ho; cases ho; rw [hd'] at hd; cases hd
theorem Inv.funs (I : Inv X pins σ H s) : s.heap.FunFrames X.base X.outer := by
  have all : ∀ (l : List Env), (∀ b ∈ frs l, b ∈ X.fs) → X.s₀.heap.FunFrames X.base l → s.heap.FunFrames X.base l := by
    intro l
    induction l with
    | nil => intro _ _; trivial
    | cons env r ih =>
      intro hs hl
      obtain ⟨hk, ⟨L, o, hf, hn, ho, hd⟩, hr⟩ := hl
      have hL : L ∈ X.fs := hs L (by unfold frs; rw [List.filterMap_cons, hf]; exact List.mem_cons_self)
      obtain ⟨sl, e⟩ := I.base.slot L o ho (I.ok.frf L hL) hL fun z => I.ok.exfs L z hL
      exact ⟨hk, ⟨L, _, hf, hn, e, hd⟩, ih (fun b hb => hs b (by unfold frs; rw [List.filterMap_cons, hf]; exact List.mem_cons_of_mem _ hb)) hr⟩
  exact all X.outer (fun _ hb => hb) I.ok.funs

/-- the frames that run, for a call -/
theorem Inv.stack (I : Inv X pins σ H s) : s.heap.FunFrames X.base X.stack := by
  rcases I.ok.stk with e | ⟨e, hf⟩
  · rw [e]; exact I.funs
  · rw [e]
    obtain ⟨m, hn, _⟩ := I.loc
    refine .cons (by rw [I.ok.kind]; decide) hf hn ?_ I.funs
    exact Heap.get?_none_of_le (Nat.le_trans I.ok.bsz I.ok.above)
theorem Inv.stkSub (I : Inv X pins σ H s) : ∀ b ∈ frs X.stack, b ∈ X.env.locals :: X.fs := fun b hb => by
  rcases I.ok.stk with e | ⟨e, hf⟩
  · rw [e] at hb; exact List.mem_cons_of_mem _ hb
  · rw [e] at hb
    unfold frs at hb
    rw [List.filterMap_cons, hf] at hb
    exact hb
theorem Inv.stkFree (I : Inv X pins σ H s) : ∀ b ∈ frs X.stack, H b = none := fun b hb => by
  rcases List.mem_cons.mp (I.stkSub b hb) with e | hb
  · rw [e]; exact I.free
  · obtain ⟨_, o, ho, _⟩ := I.ok.funs.mem hb
    exact I.base.free b o ho (I.ok.frf b hb) fun z => I.ok.exfs b z hb

/-- THE STEP: the untracked objects but the frame and the records at ch are kept (the callers' frames up to slots), the frame's map is kept, the new abstract heap is held -/
theorem Inv.step {g' : Array GenState} {t' : Nat} {d' : Drawn} {ch : List Addr} (I : Inv X pins σ H s)
    (hch : ∀ b ∈ ch, (b ∈ X.ex ∨ X.s₀.heap.objs.size ≤ b) ∧ b ≠ X.env.locals ∧ (∀ x c, X.env.cells.lookup x = some c → c ≠ b) ∧ ∀ p ∈ X.pn ++ pins, p.1 ≠ b)
    (keep : ∀ b o, b ≠ X.env.locals → b ∉ X.fs → b ∉ ch → s.heap.get? b = some o → H b = none → h'.get? b = some o)
    (slot : ∀ b o, b ≠ X.env.locals → b ∈ X.fs → b ∉ ch → s.heap.get? b = some o → H b = none → ∃ sl, h'.get? b = some { o with slots := sl }) (free : ∀ b o, b ∉ ch → s.heap.get? b = some o → H b = none → H' b = none)
    (there : ∀ b o, b ∉ ch → s.heap.get? b = some o → ∃ o', h'.get? b = some o')
    (tups : ∀ b xs, H b = some (.tup xs) → H' b = some (.tup xs)) (frzs : ∀ b o u, H b = some (.frz o u) → H' b = some (.frz o u)) (tbls : ∀ b ps, H b = some (.tbl ps) → ∃ more, H' b = some (.tbl (ps ++ more)))
    (ns : ∀ m, s.heap.Ns X.env.locals m → h'.Ns X.env.locals m) (hok : HOk X.prog X.w H' h') (hg : AllBare g') :
    Inv X pins σ H' { s with heap := h', gens := g', drawn := d', toks := t' } := by
  have neL : ∀ b o, X.s₀.heap.get? b = some o → b ≠ X.env.locals := fun b o e => Nat.ne_of_lt (Nat.lt_of_lt_of_le (Heap.lt_size e) I.ok.above)
  have neC : ∀ b o, X.s₀.heap.get? b = some o → b ∉ X.ex → b ∉ ch := fun b o e hx hb => by
    rcases (hch b hb).1 with z | z
    · exact hx z
    · exact absurd (Nat.lt_of_lt_of_le (Heap.lt_size e) z) (Nat.lt_irrefl _)
  have cellK : ∀ x c, X.env.cells.lookup x = some c → ∀ v, s.heap.IsCell c v → h'.IsCell c v := fun x c e v ⟨o, ho, hd⟩ => by
    have nch : c ∉ ch := fun z => (hch c z).2.2.1 x c e rfl
    by_cases hc : c ∈ X.fs
    · obtain ⟨sl, q⟩ := slot c o (I.cne x c e) hc nch ho (I.freeC x c e)
      exact ⟨_, q, hd⟩
    · exact ⟨o, keep c o (I.cne x c e) hc nch ho (I.freeC x c e), hd⟩
  refine ⟨I.ok, I.os, hg, ⟨fun b o e n hb hx => ?_, fun b o e n hb hx => ?_, fun b o e n hx => ?_, fun b o e hx => ?_, fun b xs e => tups b xs (I.base.tups b xs e), fun b o xs e => frzs b o xs (I.base.frzs b o xs e), fun b ps e => ?_⟩, ?_, fun x c e => ?_, ?_, fun x c e => ?_, fun p hp => ?_, hok, I.len⟩
  · exact keep b o (neL b o e) hb (neC b o e hx) (I.base.keep b o e n hb hx) (I.base.free b o e n hx)
  · obtain ⟨sl, e1⟩ := I.base.slot b o e n hb hx
    obtain ⟨sl', e2⟩ := slot b _ (neL b o e) hb (neC b o e hx) e1 (I.base.free b o e n hx)
    exact ⟨sl', e2⟩
  · obtain ⟨o', e1⟩ := I.base.there b o e hx
    exact free b o' (neC b o e hx) e1 (I.base.free b o e n hx)
  · obtain ⟨o', e1⟩ := I.base.there b o e hx
    exact there b o' (neC b o e hx) e1
  · obtain ⟨m1, e1⟩ := I.base.tbls b ps e
    obtain ⟨m2, e2⟩ := tbls b _ e1
    exact ⟨m1 ++ m2, by rw [e2, Array.append_assoc]⟩
  · obtain ⟨m, hn, hl⟩ := I.loc
    refine ⟨m, ns m hn, fun i x v e1 e2 e3 => ?_⟩
    obtain ⟨u, r, l⟩ := hl i x v e1 e2 e3
    refine ⟨u, r, ?_⟩
    rcases l with l | ⟨k, c, e, z⟩
    · exact .inl l
    · exact .inr ⟨k, c, e, cellK x c e _ z⟩
  · obtain ⟨v, z⟩ := I.cell x c e
    exact ⟨v, cellK x c e v z⟩
  · obtain ⟨m, ⟨o, _, _, ho, _⟩, _⟩ := I.loc
    exact free _ o (fun z => (hch _ z).2.1 rfl) ho I.free
  · obtain ⟨v, o, ho, hd⟩ := I.cell x c e
    exact free c o (fun z => (hch c z).2.2.1 x c e rfl) ho (I.freeC x c e)
  · obtain ⟨e, n, ne, nf, d⟩ := I.pin p hp
    have nch : p.1 ∉ ch := fun z => (hch p.1 z).2.2.2 p hp rfl
    exact ⟨keep p.1 p.2 ne nf nch e n, free p.1 p.2 nch e n, ne, nf, d⟩
/-- .. where the frame's own object is kept too -/
theorem Inv.un {t' : Nat} (I : Inv X pins σ H s) (u : Un X.fs [] H H' s.heap h') (hok : HOk X.prog X.w H' h') : Inv X pins σ H' { s with heap := h', toks := t' } := by
  obtain ⟨m, ⟨o, es, ep, ho, r⟩, _⟩ := id I.loc
  obtain ⟨sl, hL⟩ := u.any ho I.free (by simp)
  exact I.step (g' := s.gens) (d' := s.drawn) (ch := []) (fun _ z => nomatch z) (fun b o _ hb _ e n => u.keep b o e n hb (by simp)) (fun b o _ hb _ e n => u.slot b o e n hb (by simp)) (fun b o _ e n => u.free b o e n (by simp)) (fun b o _ e => u.there b o e (by simp)) u.tups u.frzs u.tbls (fun m' hm => by
    obtain ⟨o', es', ep', ho', r'⟩ := hm
    rw [ho] at ho'; cases ho'
    exact ⟨_, es', ep', hL, r'⟩) hok I.bare
/-- behind a call (or a comprehension's block): the slots of this frame may have changed too, the records at ch may have turned -/
theorem Inv.call {g' : Array GenState} {t' : Nat} {d' : Drawn} {ch : List Addr} (I : Inv X pins σ H s) (u : Un (frs X.stack) ch H H' s.heap h') (hok : HOk X.prog X.w H' h') (hg : AllBare g')
    (hch : ∀ b ∈ ch, (b ∈ X.ex ∨ X.s₀.heap.objs.size ≤ b) ∧ b ≠ X.env.locals ∧ (∀ x c, X.env.cells.lookup x = some c → c ≠ b) ∧ ∀ p ∈ X.pn ++ pins, p.1 ≠ b) :
    Inv X pins σ H' { s with heap := h', gens := g', drawn := d', toks := t' } := by
  obtain ⟨m, ⟨o, es, ep, ho, r⟩, _⟩ := id I.loc
  obtain ⟨sl, hL⟩ := u.any ho I.free fun z => (hch _ z).2.1 rfl
  exact I.step (ch := ch) hch (fun b o hL hb hc e n => u.keep b o e n (fun z => (List.mem_cons.mp (I.stkSub b z)).elim hL hb) hc) (fun b o _ _ hc e n => u.any e n hc) (fun b o hc e n => u.free b o e n hc) (fun b o hc e => u.there b o e hc) u.tups u.frzs u.tbls (fun m' hm => by
    obtain ⟨o', es', ep', ho', r'⟩ := hm
    rw [ho] at ho'; cases ho'
    exact ⟨_, es', ep', hL, r'⟩) hok hg
/-- an untracked record of ours (an iterator) has turned -/
theorem Inv.turned {t' : Nat} {it : Addr} (I : Inv X pins σ H s) (k : ∀ b o, b ≠ it → s.heap.get? b = some o → h'.get? b = some o) (hn : H it = none) (hL : it ≠ X.env.locals)
    (h1 : it ∈ X.ex ∨ X.s₀.heap.objs.size ≤ it) (h2 : ∀ x c, X.env.cells.lookup x = some c → c ≠ it) (h3 : ∀ p ∈ X.pn ++ pins, p.1 ≠ it) : Inv X pins σ H { s with heap := h', toks := t' } := by
  have nit : ∀ b u, H b = some u → b ≠ it := fun b u e z => by rw [z, hn] at e; cases e
  refine I.step (g' := s.gens) (d' := s.drawn) (ch := [it]) (fun b hb => ?_) (fun b o _ _ hc e _ => k b o (fun z => hc (by simp [z])) e) (fun b o _ _ hc e _ => ⟨o.slots, k b o (fun z => hc (by simp [z])) e⟩) (fun _ _ _ _ n => n)
    (fun b o hc e => ⟨o, k b o (fun z => hc (by simp [z])) e⟩) (fun _ _ e => e) (fun _ _ _ e => e) (fun b ps e => ⟨#[], by rw [e]; simp⟩) (fun m hm => ?_) (fun b u e => ?_) I.bare
  · have e : b = it := by simpa using hb
    subst e
    exact ⟨h1, hL, h2, h3⟩
  · obtain ⟨o, es, ep, ho, r⟩ := hm
    exact ⟨o, es, ep, k _ o (Ne.symm hL) ho, r⟩
  · refine (I.hok b u e).stay (fun c v hc q => k c v ?_ q) (fun _ q => q) fun _ _ q => q
    rcases hc with z | z
    · rw [z]; exact nit b u e
    · exact nit c _ z
theorem Inv.tok (I : Inv X pins σ H s) (t : Nat) : Inv X pins σ H { s with toks := t } := I.un (h' := s.heap) (t' := t) Un.refl I.hok
/-- all objects kept -/
theorem Inv.kept {t' : Nat} (I : Inv X pins σ H s) (k : ∀ b u, s.heap.get? b = some u → h'.get? b = some u) : Inv X pins σ H { s with heap := h', toks := t' } := I.un (Un.kept k) (I.hok.kept k)
/-- a new object laid and tracked -/
theorem Inv.laid {a : Addr} {o : HO} {t' : Nat} (I : Inv X pins σ H s) (k : ∀ b u, s.heap.get? b = some u → h'.get? b = some u) (hp : s.heap.objs.size ≤ a) (new : ObjOk X.prog X.w (upd H a o) h' a o) :
    Inv X pins σ (upd H a o) { s with heap := h', toks := t' } := I.un (Un.laid k hp (I.hok.fresh hp)) (I.hok.laid k hp new)
/-- an object written -/
theorem Inv.write {x e : Addr} {o : HO} {t' : Nat} (I : Inv X pins σ H s) (mu : Mut (H x)) (he : e = x ∨ H e = some (.own x)) (k : ∀ b u, b ≠ e → s.heap.get? b = some u → h'.get? b = some u) (heo : ∃ u, h'.get? e = some u)
    (new : ObjOk X.prog X.w (upd H x o) h' x o) : Inv X pins σ (upd H x o) { s with heap := h', toks := t' } := I.un (Un.write mu he k heo) (I.hok.write mu he k heo new)
/-- forgetting slots, pins -/
theorem Inv.weak {σ' : List (Option V)} (I : Inv X pins σ H s) (hl : σ'.length = σ.length) (w : ∀ (i : Nat) v, σ'[i]? = some (some v) → σ[i]? = some (some v)) : Inv X pins σ' H s :=
  ⟨I.ok, I.os, I.bare, I.base, let ⟨m, hn, hl'⟩ := I.loc; ⟨m, hn, fun i x v e1 e2 e3 => hl' i x v e1 (w i v e2) e3⟩, I.cell, I.free, I.freeC, I.pin, I.hok, hl.trans I.len⟩
theorem Inv.pins_of {pins' : List (Addr × Obj)} (I : Inv X pins σ H s) (h : ∀ p ∈ pins', s.heap.get? p.1 = some p.2 ∧ H p.1 = none ∧ p.1 ≠ X.env.locals ∧ p.1 ∉ X.fs ∧ ∀ v, p.2.data ≠ .cell v) : Inv X pins' σ H s :=
  ⟨I.ok, I.os, I.bare, I.base, I.loc, I.cell, I.free, I.freeC, fun p hp => (List.mem_append.mp hp).elim (fun z => I.pin p (List.mem_append_left _ z)) (h p), I.hok, I.len⟩

theorem nodup_ix {N : List Str} (hN : N.Nodup) {i j : Nat} {x : Str} (a : N[i]? = some x) (b : N[j]? = some x) : i = j := by
  obtain ⟨h1, e1⟩ := List.getElem?_eq_some_iff.mp a
  obtain ⟨h2, e2⟩ := List.getElem?_eq_some_iff.mp b
  exact (List.getElem_inj hN).mp (e1.trans e2.symm)

/-- a name is stored; what changed -/
theorem store_ok2 {M : Model} {A : Around} {E : Value → Shared → Prop} {i : Nat} {x : Str} {v : V} {u : Value} {Q : Unit → Shared → Prop} (I : Inv X pins σ H s) (hN : X.N.Nodup) (hi : X.N[i]? = some x) (hx : Loc X.env.scope x) (r : RelV v u)
    (h : ∀ s', Inv X pins (σ.set i (some v)) H s' → (∃ a, Heap.SameBut a s.heap s'.heap ∧ (a = X.env.locals ∨ X.env.cells.lookup x = some a)) → Q () s') (hf : X.fn x = true ∨ X.env.scope.names.lookup x = some .local := by first | exact .inl rfl | exact .inr rfl | assumption) : wpAny M A (storeName X.env x u) Q E s := by
  obtain ⟨m, hn, hl⟩ := id I.loc
  have hcls : (X.env.scope.kind == .class || (X.env.scope.kind == .module && X.env.locals != X.env.globals)) = false := by rw [I.ok.kind]; rfl
  have hiσ : i < σ.length := by rw [I.len]; exact (List.getElem?_eq_some_iff.mp hi).1
  have cne := I.cne
  have tracked : ∀ {a : Addr} {h' : Heap}, (∃ o, s.heap.get? a = some o ∧ H a = none) → Heap.SameBut a s.heap h' → HOk X.prog X.w H h' := fun {a h'} ha hs b ob e => by
    obtain ⟨_, _, hfree⟩ := ha
    refine (I.hok b ob e).stay (fun c w' hc q => (hs.2 c ?_).trans q) (fun _ q => q) fun _ _ q => q
    rintro rfl
    rcases hc with rfl | hc
    · rw [hfree] at e; cases e
    · rw [hfree] at hc; cases hc
  rcases hx with hk | hk
  · refine wpAny_storeName_local hk hn (fun h' hn' hs => ?_) hcls
    obtain ⟨oL, _, _, hoL, _⟩ := id hn
    refine h _ ⟨I.ok, I.os, I.bare, ⟨fun b o e n hb hx => ?_, fun b o e n hb hx => ?_, I.base.free, fun b o e hx => ?_, I.base.tups, I.base.frzs, I.base.tbls⟩, ⟨_, hn', fun j y v' e1 e2 e3 => ?_⟩, fun y c e => ?_, I.free, I.freeC, fun p hp => ?_, tracked ⟨oL, hoL, I.free⟩ hs, by simpa using I.len⟩ ⟨_, hs, .inl rfl⟩
    · exact (hs.2 b (Nat.ne_of_lt (Nat.lt_of_lt_of_le (Heap.lt_size e) I.ok.above))).trans (I.base.keep b o e n hb hx)
    · obtain ⟨sl, e1⟩ := I.base.slot b o e n hb hx
      exact ⟨sl, (hs.2 b (Nat.ne_of_lt (Nat.lt_of_lt_of_le (Heap.lt_size e) I.ok.above))).trans e1⟩
    · obtain ⟨o', e1⟩ := I.base.there b o e hx
      exact ⟨o', (hs.2 b (Nat.ne_of_lt (Nat.lt_of_lt_of_le (Heap.lt_size e) I.ok.above))).trans e1⟩
    · by_cases hj : j = i
      · subst hj
        rw [hi] at e1; cases e1
        rw [List.getElem?_set_self hiσ] at e2
        cases e2
        exact ⟨u, r, .inl ⟨hk, by simp⟩⟩
      · rw [List.getElem?_set_ne (Ne.symm hj)] at e2
        obtain ⟨u', r', q⟩ := hl j y v' e1 e2 e3
        refine ⟨u', r', ?_⟩
        rcases q with ⟨k, e⟩ | ⟨k, c, e, z⟩
        · refine .inl ⟨k, ?_⟩
          have : y ≠ x := fun e => hj (nodup_ix hN e1 (e ▸ hi))
          simp [this, e]
        · exact .inr ⟨k, c, e, z.sameBut hs (cne y c e)⟩
    · obtain ⟨w', z⟩ := I.cell y c e
      exact ⟨w', z.sameBut hs (cne y c e)⟩
    · obtain ⟨e, n, ne, nf, d⟩ := I.pin p hp
      exact ⟨(hs.2 p.1 ne).trans e, n, ne, nf, d⟩
  · have hfn : X.fn x = true := by
      rcases hf with z | z
      · exact z
      · rw [z] at hk; cases hk
    obtain ⟨c, hc⟩ := I.ok.has x (.inl hk)
    obtain ⟨w', z⟩ := I.cell x c hc
    refine wpAny_storeName_cell I.ok.kind hk hc z (fun h' hc' hs => ?_)
    obtain ⟨oc, hoc, hocd⟩ := id z
    refine h { s with heap := h' } ⟨I.ok, I.os, I.bare, ⟨fun b o e n hb hx => ?_, fun b o e n hb hx => ?_, I.base.free, fun b o e hx => ?_, I.base.tups, I.base.frzs, I.base.tbls⟩, ⟨m, hn.sameBut hs (Ne.symm (cne x c hc)), fun j y v' e1 e2 e3 => ?_⟩, fun y c' e => ?_, I.free, I.freeC, fun p hp => ?_, tracked ⟨oc, hoc, I.freeC x c hc⟩ hs, by simpa using I.len⟩ ⟨c, hs, .inr hc⟩
    · exact (hs.2 b (Nat.ne_of_lt (Nat.lt_of_lt_of_le (Heap.lt_size e) (I.ok.cab x c hfn hc)))).trans (I.base.keep b o e n hb hx)
    · obtain ⟨sl, e1⟩ := I.base.slot b o e n hb hx
      exact ⟨sl, (hs.2 b (Nat.ne_of_lt (Nat.lt_of_lt_of_le (Heap.lt_size e) (I.ok.cab x c hfn hc)))).trans e1⟩
    · obtain ⟨o', e1⟩ := I.base.there b o e hx
      exact ⟨o', (hs.2 b (Nat.ne_of_lt (Nat.lt_of_lt_of_le (Heap.lt_size e) (I.ok.cab x c hfn hc)))).trans e1⟩
    · by_cases hj : j = i
      · subst hj
        rw [hi] at e1; cases e1
        rw [List.getElem?_set_self hiσ] at e2
        cases e2
        exact ⟨u, r, .inr ⟨.inl hk, c, hc, hc'⟩⟩
      · rw [List.getElem?_set_ne (Ne.symm hj)] at e2
        obtain ⟨u', r', q⟩ := hl j y v' e1 e2 e3
        refine ⟨u', r', ?_⟩
        rcases q with q | ⟨k, c', e, z'⟩
        · exact .inl q
        · refine .inr ⟨k, c', e, z'.sameBut hs ?_⟩
          rintro rfl
          exact hj (nodup_ix hN e1 (I.ok.inj _ _ _ e hc ▸ hi))
    · by_cases hcc : c' = c
      · subst hcc; exact ⟨_, hc'⟩
      · obtain ⟨w2, z2⟩ := I.cell y c' e
        exact ⟨w2, z2.sameBut hs hcc⟩
    · obtain ⟨e, n, ne, nf, d⟩ := I.pin p hp
      refine ⟨(hs.2 p.1 ?_).trans e, n, ne, nf, d⟩
      intro q
      rw [q, hoc] at e
      have q' : oc = p.2 := Option.some.inj e
      exact d w' (by rw [← q']; exact hocd)
theorem store_ok {M : Model} {A : Around} {E : Value → Shared → Prop} {i : Nat} {x : Str} {v : V} {u : Value} {Q : Unit → Shared → Prop} (I : Inv X pins σ H s) (hN : X.N.Nodup) (hi : X.N[i]? = some x) (hx : Loc X.env.scope x) (r : RelV v u)
    (h : ∀ s', Inv X pins (σ.set i (some v)) H s' → Q () s') (hf : X.fn x = true ∨ X.env.scope.names.lookup x = some .local := by first | exact .inl rfl | exact .inr rfl | assumption) : wpAny M A (storeName X.env x u) Q E s :=
  store_ok2 I hN hi hx r (fun s' I' _ => h s' I') hf
/-- behind a call or a block, the state as it is -/
theorem Inv.call' {s' : Shared} {ch : List Addr} (I : Inv X pins σ H s) (ho : s'.os = s.os) (u : Un (frs X.stack) ch H H' s.heap s'.heap) (hok : HOk X.prog X.w H' s'.heap) (hg : AllBare s'.gens)
    (hch : ∀ b ∈ ch, (b ∈ X.ex ∨ X.s₀.heap.objs.size ≤ b) ∧ b ≠ X.env.locals ∧ (∀ x c, X.env.cells.lookup x = some c → c ≠ b) ∧ ∀ p ∈ X.pn ++ pins, p.1 ≠ b) : Inv X pins σ H' s' := by
  obtain ⟨h', g', d', t', o'⟩ := s'
  have e : o' = s.os := ho
  subst e
  exact I.call (g' := g') (t' := t') (d' := d') u hok hg hch
end

/-! ### the judgements -/
/-- an exception: its class, its own dict's address (where it has one), the abstract heap behind it -/
abbrev XK := Value → Option Addr → Hp → Prop
abbrev St := List (Option V)
abbrev VK := V → Hp → Prop
/-- an expression's reading; a test's; an argument list's -/
abbrev TE := St → Hp → VK → Prop
abbrev TT := St → Hp → (Bool → Hp → Prop) → Prop
abbrev TA := St → Hp → (List V → Hp → Prop) → Prop
/-- what is wanted behind a statement -/
structure Ends where
  nx : St → Hp → Prop
  rt : VK
  bk : St → Hp → Prop := fun _ _ => False
  ct : St → Hp → Prop := fun _ _ => False
abbrev TS := Ends → St → Hp → Prop

def EP (X : Cx) (pins : List (Addr × Obj)) (σ : St) (Q : VK) (u : Value) (s' : Shared) : Prop := ∃ v H', Inv X pins σ H' s' ∧ RelV v u ∧ Q v H'
def TP (X : Cx) (pins : List (Addr × Obj)) (σ : St) (Q : Bool → Hp → Prop) (b : Bool) (s' : Shared) : Prop := ∃ H', Inv X pins σ H' s' ∧ Q b H'
def AP (X : Cx) (pins : List (Addr × Obj)) (σ : St) (Q : List V → Hp → Prop) (us : List Value) (s' : Shared) : Prop := ∃ vs H', Inv X pins σ H' s' ∧ Vals vs us ∧ Q vs H'
def SP (X : Cx) (pins : List (Addr × Obj)) (D : Ends) (f : Flow) (s' : Shared) : Prop :=
  match f with
  | .next => ∃ σ' H', Inv X pins σ' H' s' ∧ D.nx σ' H'
  | .brk => ∃ σ' H', Inv X pins σ' H' s' ∧ D.bk σ' H'
  | .cont => ∃ σ' H', Inv X pins σ' H' s' ∧ D.ct σ' H'
  | .ret u => ∃ v σ' H', Inv X pins σ' H' s' ∧ RelV v u ∧ D.rt v H'

def PE (X : Cx) (e : Expr) (t : TE) : Prop :=
  ∀ (pins : List (Addr × Obj)) (s : Shared) (σ : St) (H : Hp) (Q : VK), Inv X pins σ H s → t σ H Q → wpAny (model X.prog X.w) X.A (eval e X.env) (EP X pins σ Q) X.xe s
def PT (X : Cx) (e : Expr) (t : TT) : Prop :=
  ∀ (pins : List (Addr × Obj)) (s : Shared) (σ : St) (H : Hp) (Q : Bool → Hp → Prop), Inv X pins σ H s → t σ H Q → wpAny (model X.prog X.w) X.A (isTrue e X.env (eval e X.env)) (TP X pins σ Q) X.xe s
/-- a test whatever its 'whole' is (and, or) -/
def PW (X : Cx) (e : Expr) (t : TT) : Prop :=
  ∀ (whole : Sem Value) (pins : List (Addr × Obj)) (s : Shared) (σ : St) (H : Hp) (Q : Bool → Hp → Prop), Inv X pins σ H s → t σ H Q → wpAny (model X.prog X.w) X.A (isTrue e X.env whole) (TP X pins σ Q) X.xe s
theorem PW.pt {X : Cx} {e : Expr} {t : TT} (h : PW X e t) : PT X e t := h _
/-- an argument list (no star), from the left -/
def PA (X : Cx) (es : List Expr) (t : TA) : Prop :=
  ∀ (pos : Pos) (pins : List (Addr × Obj)) (s : Shared) (σ : St) (H : Hp) (Q : List V → Hp → Prop), Inv X pins σ H s → t σ H Q → wpAny (model X.prog X.w) X.A (spliced (backTo pos (starEach es X.env))) (AP X pins σ Q) X.xe s
def PS (X : Cx) (st : Stmt) (t : TS) : Prop :=
  ∀ (pins : List (Addr × Obj)) (s : Shared) (σ : St) (H : Hp) (D : Ends), Inv X pins σ H s → t D σ H → wpAny (model X.prog X.w) X.A (exec st X.env) (SP X pins D) X.xe s
def PSs (X : Cx) (st : List Stmt) (t : TS) : Prop :=
  ∀ (pins : List (Addr × Obj)) (s : Shared) (σ : St) (H : Hp) (D : Ends), Inv X pins σ H s → t D σ H → wpAny (model X.prog X.w) X.A (execs st X.env) (SP X pins D) X.xe s
/-- weaken the end -/
theorem thn {α : Type} {t : Sem α} {Q Q' : α → Shared → Prop} {M : Model} {A : Around} {E : Value → Shared → Prop} {s : Shared} (h : wpAny M A t Q E s) (hQ : ∀ a s, Q a s → Q' a s) : wpAny M A t Q' E s := wpAny_mono h hQ fun _ _ x => x
end L2

namespace L2
open PySem PySem.Spec PyProof.Rows
section
variable {X : Cx}

/-! ### names and constants -/
def tVar (i : Nat) : TE := fun σ H Q => ∃ v, σ[i]? = some (some v) ∧ Q v H
def tC (v : V) : TE := fun _ H Q => Q v H
theorem pe_var {i : Nat} {x : Str} {pos : Pos} (hN : X.N[i]? = some x) (hv : Vis X.env.scope x) (hd : (x == ("__debug__" : Str)) = false := by decide) (hcd : (x == ("__classdict__" : Str)) = false := by decide) : PE X (.Name x pos) (tVar i) := by
  intro pins s σ H Q I h
  obtain ⟨v, e, h⟩ := h
  obtain ⟨m, hn, hl⟩ := I.loc
  obtain ⟨u, r, l⟩ := hl i x v hN e hv
  have fin : EP X pins σ Q u s := ⟨v, H, I, r, h⟩
  rcases l with ⟨hk, hm⟩ | ⟨hk, c, hc, hcell⟩
  · exact wpAny_Name (wpAny_loadName_local I.ok.kind hk hn hm fin) hd
  · rcases hk with hk | hk
    · exact wpAny_Name (wpAny_loadName_cell I.ok.kind hk hc hcell fin) hd
    · exact wpAny_Name (wpAny_loadName_free I.ok.kind hk hc hcell fin hcd) hd
theorem pe_int {i j pos} : PE X (.Constant (.int i) j pos) (tC (.int i)) := fun _ _ _ H _ I h => wpAny_Constant_int ⟨.int i, H, I.tok _, ⟨_, rfl⟩, h⟩
theorem pe_bl {b j pos} : PE X (.Constant (.bool b) j pos) (tC (.bl b)) := fun _ _ _ H _ I h => Constant_bool ⟨.bl b, H, I, rfl, h⟩
/-- a global name of the def -/
def Gl (X : Cx) (x : Str) : Prop := X.env.kindOf x = some .globalImplicit
theorem ld_glob {E : Value → Shared → Prop} {pins : List (Addr × Obj)} {s : Shared} {σ : St} {H : Hp} {x : Str} {u : Value} {pos : Pos} {Q : Value → Shared → Prop} (I : Inv X pins σ H s) (hg : Gl X x) (hm : X.mg x = some u) (h : Q u s)
    (hd : (x == ("__debug__" : Str)) = false := by decide) : wpAny (model X.prog X.w) X.A (eval (.Name x pos) X.env) Q E s :=
  Calls.Name_function_global I.ok.kind hg (Calls.loadGlobal_global (by rw [I.ok.glob]; exact I.mod.glob.keeps I.bk) hm h) hd
theorem ld_blt {E : Value → Shared → Prop} {pins : List (Addr × Obj)} {s : Shared} {σ : St} {H : Hp} {x : Str} {u : Value} {pos : Pos} {Q : Value → Shared → Prop} (I : Inv X pins σ H s) (hg : Gl X x) (hm : X.mg x = none) (hv : bootBuiltins x = some u) (h : Q u s)
    (hn : x ≠ "__name__" := by decide) (hd : (x == ("__debug__" : Str)) = false := by decide) : wpAny (model X.prog X.w) X.A (eval (.Name x pos) X.env) Q E s := by
  obtain ⟨mb, h1, h2⟩ := I.mod.blt
  exact Calls.Name_function_global I.ok.kind hg (Calls.loadGlobal_builtin (by rw [I.ok.glob]; exact I.mod.glob.keeps I.bk) hm (by rw [I.ok.blt]; exact h1.keeps I.bk) ((h2 x hn).trans hv) h) hd
/-- a module's constant, a class, a function, as a value -/
theorem pe_glob {x : Str} {v : V} {u : Value} {pos : Pos} (hg : Gl X x) (hm : X.mg x = some u) (r : RelV v u) (hd : (x == ("__debug__" : Str)) = false := by decide) : PE X (.Name x pos) (tC v) :=
  fun _ _ _ H _ I h => ld_glob I hg hm ⟨v, H, I, r, h⟩ hd
/-! ### arithmetic -/
/-- two ints -/
def t2I (ta tb : TE) (k : Int → Int → Hp → Prop) : St → Hp → Prop := fun σ H => ta σ H fun x H1 => tb σ H1 fun y H2 => ∃ i j, x = .int i ∧ y = .int j ∧ k i j H2
def tAdd (ta tb : TE) : TE := fun σ H Q => t2I ta tb (fun i j H2 => Q (.int (i + j)) H2) σ H
def tSub (ta tb : TE) : TE := fun σ H Q => t2I ta tb (fun i j H2 => Q (.int (i - j)) H2) σ H
/-- the left factor below 2^64 -/
def tMul (ta tb : TE) : TE := fun σ H Q => t2I ta tb (fun i j H2 => (-(2 ^ 64) < i ∧ i < 2 ^ 64) ∧ Q (.int (i * j)) H2) σ H
variable {a b : Expr} {ta tb : TE} {pos : Pos}
/-! ### comparisons -/
def PC (X : Cx) (op : CmpOp) (a b : Expr) (t : TE) : Prop :=
  ∀ (pins : List (Addr × Obj)) (s : Shared) (σ : St) (H : Hp) (Q : VK), Inv X pins σ H s → t σ H Q →
    wpAny (model X.prog X.w) X.A (eval a X.env) (fun v s₁ => wpAny (model X.prog X.w) X.A (eval b X.env) (fun u s₂ => wpAny (model X.prog X.w) X.A (compareOp op v u) (EP X pins σ Q) X.xe s₂) X.xe s₁) X.xe s
def tCmp (p : Int → Int → Bool) (ta tb : TE) : TE := fun σ H Q => t2I ta tb (fun i j H2 => Q (.bl (p i j)) H2) σ H
abbrev tLt : TE → TE → TE := tCmp fun i j => decide (i < j)
abbrev tLe : TE → TE → TE := tCmp fun i j => decide (i ≤ j)
abbrev tGt : TE → TE → TE := tCmp fun i j => decide (j < i)
abbrev tGe : TE → TE → TE := tCmp fun i j => decide (j ≤ i)
abbrev tEqI : TE → TE → TE := tCmp fun i j => decide (i = j)
abbrev tNeI : TE → TE → TE := tCmp fun i j => !decide (i = j)
/-- is None -/
def tIsN (ta : TE) : TE := fun σ H Q => ta σ H fun x H1 => Q (.bl (decide (x = .non))) H1
def tNotN (ta : TE) : TE := fun σ H Q => ta σ H fun x H1 => Q (.bl (!decide (x = .non))) H1
/-- a comparison as a value, as a test -/
def tB (t : TE) : TT := fun σ H Q => t σ H fun x H1 => ∃ c, x = .bl c ∧ Q c H1
/-! ### and, or, not -/
variable {tA tB' : TT} {rest : List Expr}
def tAnd (t u : TT) : TT := fun σ H Q => t σ H fun c H1 => if c = true then u σ H1 Q else Q false H1
def tOr (t u : TT) : TT := fun σ H Q => t σ H fun c H1 => if c = true then Q true H1 else u σ H1 Q
def tNot (t : TT) : TT := fun σ H Q => t σ H fun c H1 => Q (!c) H1
theorem pw_and1 (ha : PT X a tA) : PW X (.BoolOp .And [a] pos) tA := by
  intro wh pins s σ H Q I h
  refine isTrue_and (thn (ha pins s σ H Q I h) fun c s1 e => ?_)
  cases c with
  | true => exact isTrue_and_nil e
  | false => exact e
theorem pw_or1 (ha : PT X a tA) : PW X (.BoolOp .Or [a] pos) tA := by
  intro wh pins s σ H Q I h
  refine isTrue_or (thn (ha pins s σ H Q I h) fun c s1 e => ?_)
  cases c with
  | false => exact isTrue_or_nil e
  | true => exact e
theorem pw_and (ha : PT X a tA) (hb : PW X (.BoolOp .And (b :: rest) pos) tB') : PW X (.BoolOp .And (a :: b :: rest) pos) (tAnd tA tB') := by
  intro wh pins s σ H Q I h
  refine isTrue_and (thn (ha pins s σ H _ I h) fun c s1 ⟨H1, I1, q1⟩ => ?_)
  cases c with
  | true => exact hb wh pins s1 σ H1 Q I1 q1
  | false => exact ⟨H1, I1, q1⟩
theorem pw_or (ha : PT X a tA) (hb : PW X (.BoolOp .Or (b :: rest) pos) tB') : PW X (.BoolOp .Or (a :: b :: rest) pos) (tOr tA tB') := by
  intro wh pins s σ H Q I h
  refine isTrue_or (thn (ha pins s σ H _ I h) fun c s1 ⟨H1, I1, q1⟩ => ?_)
  cases c with
  | true => exact ⟨H1, I1, q1⟩
  | false => exact hb wh pins s1 σ H1 Q I1 q1
theorem pt_not (ha : PT X a tA) : PT X (.UnaryOp .Not a pos) (tNot tA) := by
  intro pins s σ H Q I h
  exact isTrue_not (ha pins s σ H (fun c H1 => Q (!c) H1) I h)
/-- .. as values (bools) -/
def tAndV (ta tb : TE) : TE := fun σ H Q => ta σ H fun x H1 => ∃ c, x = .bl c ∧ if c = true then tb σ H1 Q else Q (.bl false) H1
def tOrV (ta tb : TE) : TE := fun σ H Q => ta σ H fun x H1 => ∃ c, x = .bl c ∧ if c = true then Q (.bl true) H1 else tb σ H1 Q
def tNotV (ta : TE) : TE := fun σ H Q => ta σ H fun x H1 => ∃ c, x = .bl c ∧ Q (.bl (!c)) H1
theorem pe_one {op} {t : TE} (h : PE X a t) : PE X (.BoolOp op [a] pos) t := fun pins s σ H Q I hw => BoolOp_one (h pins s σ H Q I hw)
theorem pe_and (ha : PE X a ta) (hb : PE X (.BoolOp .And (b :: rest) pos) tb) : PE X (.BoolOp .And (a :: b :: rest) pos) (tAndV ta tb) := by
  intro pins s σ H Q I h
  refine BoolOp_and (thn (ha pins s σ H _ I h) fun v s1 ⟨x, H1, I1, r1, q1⟩ => ?_)
  obtain ⟨c, rfl, q1⟩ := q1
  cases r1
  refine wpAny_truthy_bool ?_
  cases c with
  | true => exact hb pins s1 σ H1 Q I1 q1
  | false => exact ⟨.bl false, H1, I1, rfl, q1⟩
theorem pe_not (ha : PE X a ta) : PE X (.UnaryOp .Not a pos) (tNotV ta) := by
  intro pins s σ H Q I h
  refine UnaryOp_ (thn (ha pins s σ H _ I h) fun v s1 ⟨x, H1, I1, r1, q1⟩ => ?_)
  obtain ⟨c, rfl, q1⟩ := q1
  cases r1
  exact not_of (wpAny_truthy_bool ⟨.bl (!c), H1, I1, rfl, q1⟩)
/-- a if t else b -/
def tIf (t : TT) (ta tb : TE) : TE := fun σ H Q => t σ H fun c H1 => if c = true then ta σ H1 Q else tb σ H1 Q
theorem pe_ifExp {c : Expr} (hc : PT X c tA) (ha : PE X a ta) (hb : PE X b tb) : PE X (.IfExp c a b pos) (tIf tA ta tb) := by
  intro pins s σ H Q I h
  refine wpAny_IfExp (thn (hc pins s σ H _ I h) fun d s1 ⟨H1, I1, q1⟩ => ?_)
  cases d with
  | true => exact ha pins s1 σ H1 Q I1 q1
  | false => exact hb pins s1 σ H1 Q I1 q1
end
end L2

namespace L2
open PySem PySem.Spec PyProof.Rows

/-! ### a list, a tuple that is read: tracked, frozen, or an object of the module -/
def SqL (K : PySem.W.Frag) (H : Hp) (a : Addr) (xs : List V) : Prop :=
  Rd H a (.lst xs) ∨
    ∃ (o : Obj) (its : Array Value) (n : Nat), K.lookup a = some o ∧ o.cls = .type "list" ∧ o.dict = none ∧ o.data = .seq its n ∧ its.size ≤ sizeLine ∧ Vals xs its.toList
def SqT (K : PySem.W.Frag) (H : Hp) (a : Addr) (xs : List V) : Prop :=
  Rd H a (.tup xs) ∨
    ∃ (o : Obj) (its : Array Value) (n : Nat), K.lookup a = some o ∧ o.cls = .type "tuple" ∧ o.data = .seq its n ∧ its.size ≤ sizeLine ∧ Vals xs its.toList
def absV : Value → Option V
  | .none => some .non
  | .bool b => some (.bl b)
  | .int i _ => some (.int i)
  | .str x _ => some (.str x)
  | .bytes b _ => some (.byt b)
  | .float b _ => some (.flt b)
  | .ref a => some (.ref a)
  | .type n => some (.ty n)
  | _ => none
theorem RelV.abs {x : V} {u : Value} (r : RelV x u) : absV u = some x := by
  cases x with
  | non => cases r; rfl
  | bl _ => cases r; rfl
  | int _ => obtain ⟨t, rfl⟩ := r; rfl
  | str _ => obtain ⟨t, rfl⟩ := r; rfl
  | byt _ => obtain ⟨t, rfl⟩ := r; rfl
  | flt _ => obtain ⟨t, rfl⟩ := r; rfl
  | ref _ => cases r; rfl
  | ty _ => cases r; rfl
theorem RelV.inj {x y : V} {u : Value} (r : RelV x u) (q : RelV y u) : x = y := Option.some.inj (r.abs.symm.trans q.abs)
theorem Vals.inj : ∀ {xs ys : List V} {us : List Value}, Vals xs us → Vals ys us → xs = ys
  | _, _, _, .nil, .nil => rfl
  | _, _, _, .cons r t, .cons r' t' => by rw [r.inj r', Vals.inj t t']
section
variable {X : Cx} {pins : List (Addr × Obj)} {σ : St} {H : Hp} {s : Shared} {a : Addr} {xs ys : List V}
theorem SqL.of {K : PySem.W.Frag} (h : H a = some (.lst xs)) : SqL K H a xs := .inl (.inl h)
theorem SqT.of {K : PySem.W.Frag} (h : H a = some (.tup xs)) : SqT K H a xs := .inl (.inl h)
theorem Inv.list (I : Inv X pins σ H s) (h : SqL X.K H a xs) : ∃ its : List Value, Vals xs its ∧ PlainL s.heap a its.toArray ∧ xs.length ≤ sizeLine := by
  rcases h with h | ⟨o, its, n, hk, hc, hd, hs, hz, r⟩
  · obtain ⟨z, its, n, r, e⟩ := h.ok I.hok
    exact ⟨its, r, ⟨_, n, e, rfl, rfl, rfl⟩, z⟩
  · refine ⟨its.toList, r, ⟨o, n, I.kIn a o hk, hc, hd, by simpa using hs⟩, ?_⟩
    have e := r.length
    simp only [Array.length_toList] at e
    omega
theorem Inv.tuple (I : Inv X pins σ H s) (h : SqT X.K H a xs) : ∃ its : List Value, Vals xs its ∧ IsTup s.heap a its.toArray ∧ xs.length ≤ sizeLine := by
  rcases h with h | ⟨o, its, n, hk, hc, hs, hz, r⟩
  · obtain ⟨z, its, r, p⟩ := h.ok I.hok
    exact ⟨its, r, p, z⟩
  · refine ⟨its.toList, r, ⟨o, I.kIn a o hk, hc, n, by simpa using hs⟩, ?_⟩
    have e := r.length
    simp only [Array.length_toList] at e
    omega
theorem Inv.list_inj (I : Inv X pins σ H s) (h : SqL X.K H a xs) (h' : SqL X.K H a ys) : xs = ys := by
  obtain ⟨its, r, ⟨o, n, e, _, _, d⟩, _⟩ := I.list h
  obtain ⟨its', r', ⟨o', n', e', _, _, d'⟩, _⟩ := I.list h'
  rw [e] at e'; cases e'
  rw [d] at d'
  injection d' with d1 _
  have : its = its' := by simpa using congrArg Array.toList d1
  subst this
  exact r.inj r'
end

/-! ### another wish about exceptions -/
abbrev Cx.wish (X : Cx) (E : Value → Shared → Prop) : Cx := { X with xe := E }
/-- no exception leaves -/
abbrev Cx.nox (X : Cx) : Cx := X.wish fun _ _ => False
theorem Cx.Ok.wish {X : Cx} (ok : X.Ok) (E : Value → Shared → Prop) : (X.wish E).Ok :=
  ⟨ok.mod, ok.kind, ok.glob, ok.blt, ok.above, ok.inj, ok.has, ok.cab, ok.hd, ok.frames, ok.stk, ok.exf, ok.bs, ok.bsz, ok.noex, ok.exfs, ok.funs, ok.frf⟩
theorem Cx.Ok.unwish {X : Cx} {E : Value → Shared → Prop} (ok : (X.wish E).Ok) : X.Ok :=
  ⟨ok.mod, ok.kind, ok.glob, ok.blt, ok.above, ok.inj, ok.has, ok.cab, ok.hd, ok.frames, ok.stk, ok.exf, ok.bs, ok.bsz, ok.noex, ok.exfs, ok.funs, ok.frf⟩
section
variable {X : Cx} {pins : List (Addr × Obj)} {σ : St} {H : Hp} {s : Shared} {E : Value → Shared → Prop}
theorem Inv.wish (I : Inv X pins σ H s) (E : Value → Shared → Prop) : Inv (X.wish E) pins σ H s := ⟨I.ok.wish E, I.os, I.bare, I.base, I.loc, I.cell, I.free, I.freeC, I.pin, I.hok, I.len⟩
theorem Inv.unwish (I : Inv (X.wish E) pins σ H s) : Inv X pins σ H s := ⟨I.ok.unwish, I.os, I.bare, I.base, I.loc, I.cell, I.free, I.freeC, I.pin, I.hok, I.len⟩
theorem SP.unwish {D : Ends} {f : Flow} {s' : Shared} (h : SP (X.wish E) pins D f s') : SP X pins D f s' := by
  cases f with
  | next => obtain ⟨σ', H', I, q⟩ := h; exact ⟨σ', H', I.unwish, q⟩
  | brk => obtain ⟨σ', H', I, q⟩ := h; exact ⟨σ', H', I.unwish, q⟩
  | cont => obtain ⟨σ', H', I, q⟩ := h; exact ⟨σ', H', I.unwish, q⟩
  | ret u => obtain ⟨v, σ', H', I, r, q⟩ := h; exact ⟨v, σ', H', I.unwish, r, q⟩
theorem PSs.nox {st : List Stmt} {t : TS} (h : PSs X.nox st t) : PSs X st t := fun pins s σ H D I hw =>
  wpAny_mono (h pins s σ H D (I.wish _) hw) (fun _ _ q => q.unwish) fun _ _ z => False.elim z
end

/-! ### blocks and small statements -/
section
variable {X : Cx} {st : Stmt} {rest : List Stmt} {t u : TS} {e : Expr} {te : TE} {pos : Pos}
def tNext : TS := fun D σ H => D.nx σ H
def tSeq (t u : TS) : TS := fun D σ H => t { D with nx := u D } σ H
theorem pss_nil : PSs X [] tNext := fun _ _ σ H _ I h => wpAny_execs_nil ⟨σ, H, I, h⟩
theorem pss_cons (h1 : PS X st t) (h2 : PSs X rest u) : PSs X (st :: rest) (tSeq t u) := by
  intro pins s σ H D I h
  refine wpAny_execs_cons (thn (h1 pins s σ H { D with nx := u D } I h) fun f s1 q => ?_)
  cases f with
  | next =>
    obtain ⟨σ', H', I', q⟩ := q
    exact h2 pins s1 σ' H' D I' q
  | ret v => exact q
  | brk => exact q
  | cont => exact q
theorem pss_one (h1 : PS X st t) : PSs X [st] t := by
  intro pins s σ H D I h
  refine wpAny_execs_cons (thn (h1 pins s σ H D I h) fun f s1 q => ?_)
  cases f with
  | next => exact wpAny_execs_nil q
  | ret v => exact q
  | brk => exact q
  | cont => exact q
def tBreak : TS := fun D σ H => D.bk σ H
def tCont : TS := fun D σ H => D.ct σ H
/-- in a def's body nothing is shown -/
theorem Inv.quiet {pins : List (Addr × Obj)} {σ : St} {H : Hp} {s : Shared} (I : Inv X pins σ H s) : interactive X.env = false := by simp [interactive, I.ok.kind]
/-- an expression whose value is dropped -/
def tDrop (te : TE) : TS := fun D σ H => te σ H fun _ H1 => D.nx σ H1
theorem ps_expr (he : PE X e te) (hs : swapsWith e none pos.line X.env = pure false := by rfl) : PS X (.Expr e pos) (tDrop te) := by
  intro pins s σ H D I h
  exact wpAny_Expr_any (thn (he pins s σ H _ I h) fun v s1 ⟨x, H1, I1, r1, q1⟩ => ⟨σ, H1, I1, q1⟩) I.quiet hs
def tRet (te : TE) : TS := fun D σ H => te σ H D.rt
theorem ps_ret (he : PE X e te) : PS X (.Return (some e) pos) (tRet te) := by
  intro pins s σ H D I h
  exact wpAny_Return_some (thn (he pins s σ H _ I h) fun v s1 ⟨x, H1, I1, r1, q1⟩ => ⟨x, σ, H1, I1, r1, q1⟩)
def tRetN : TS := fun D _ H => D.rt .non H
def tIfS (c : TT) (t u : TS) : TS := fun D σ H => c σ H fun b H1 => if b = true then t D σ H1 else u D σ H1
theorem ps_if {c : Expr} {a b : List Stmt} {tc : TT} (hc : PT X c tc) (ha : PSs X a t) (hb : PSs X b u) : PS X (.If c a b pos) (tIfS tc t u) := by
  intro pins s σ H D I h
  refine wpAny_If (thn (hc pins s σ H _ I h) fun d s1 ⟨H1, I1, q1⟩ => ?_)
  cases d with
  | true => exact ha pins s1 σ H1 D I1 q1
  | false => exact hb pins s1 σ H1 D I1 q1
/-- code that the proof never comes to -/
def tNever : TS := fun _ _ _ => False
theorem ps_never : PS X st tNever := fun _ _ _ _ _ _ h => h.elim
end

/-! ### targets -/
abbrev TG := V → St → Hp → (St → Hp → Prop) → Prop
abbrev TGs := List V → St → Hp → (St → Hp → Prop) → Prop
def PG (X : Cx) (target : Expr) (t : TG) : Prop :=
  ∀ (pins : List (Addr × Obj)) (s : Shared) (σ : St) (H : Hp) (v : V) (u : Value) (Q : St → Hp → Prop), Inv X pins σ H s → RelV v u → t v σ H Q →
    wpAny (model X.prog X.w) X.A (assign target X.env u) (fun _ s' => ∃ σ' H', Inv X pins σ' H' s' ∧ Q σ' H') X.xe s
/-- several targets, one after another -/
def PGs (X : Cx) (ts : List Expr) (t : TGs) : Prop :=
  ∀ (pins : List (Addr × Obj)) (s : Shared) (σ : St) (H : Hp) (vs : List V) (us : List Value) (Q : St → Hp → Prop), Inv X pins σ H s → Vals vs us → t vs σ H Q →
    wpAny (model X.prog X.w) X.A (assignInOrder ((assignEach ts X.env).map (·.2)) us) (fun _ s' => ∃ σ' H', Inv X pins σ' H' s' ∧ Q σ' H') X.xe s
/-- o[i] = v, by values -/
abbrev TSet := V → V → V → Hp → (Hp → Prop) → Prop
def PSet (X : Cx) (t : TSet) : Prop :=
  ∀ (pins : List (Addr × Obj)) (s : Shared) (σ : St) (H : Hp) (o i v : V) (ov iv u : Value) (Q : Hp → Prop), Inv X pins σ H s → RelV o ov → RelV i iv → RelV v u → t o i v H Q →
    wpAny (model X.prog X.w) X.A (setItem ov iv u) (fun _ s' => ∃ H', Inv X pins σ H' s' ∧ Q H') X.xe s
/-- a op= b, by values -/
abbrev TIp := V → V → Hp → VK → Prop
def PIp (X : Cx) (op : Operator) (t : TIp) : Prop :=
  ∀ (pins : List (Addr × Obj)) (s : Shared) (σ : St) (H : Hp) (x y : V) (v u : Value) (Q : VK), Inv X pins σ H s → RelV x v → RelV y u → t x y H Q →
    wpAny (model X.prog X.w) X.A (inplaceOp op v u) (EP X pins σ Q) X.xe s
section
variable {X : Cx} {pos : Pos}
def gName (i : Nat) : TG := fun v σ H Q => Q (σ.set i (some v)) H
theorem pg_name {i : Nat} {x : Str} (hN : X.N.Nodup) (hi : X.N[i]? = some x) (hx : Loc X.env.scope x) (hf : X.fn x = true ∨ X.env.scope.names.lookup x = some .local := by first | exact .inl rfl | exact .inr rfl | assumption) : PG X (.Name x pos) (gName i) := by
  intro pins s σ H v u Q I r h
  exact wpAny_assign_Name (store_ok I hN hi hx r (fun s' I' => ⟨_, H, I', h⟩) hf)
def gNil : TGs := fun vs σ H Q => vs = [] ∧ Q σ H
def gCons (t : TG) (u : TGs) : TGs := fun vs σ H Q => ∃ v r, vs = v :: r ∧ t v σ H fun σ' H' => u r σ' H' Q
theorem pgs_nil : PGs X [] gNil := by
  intro pins s σ H vs us Q I r h
  obtain ⟨e, h⟩ := h
  subst e
  cases r
  exact assignInOrder_nil ⟨σ, H, I, h⟩
theorem pgs_cons {e : Expr} {es : List Expr} {t : TG} {u : TGs} (h1 : PG X e t) (h2 : PGs X es u)
    (hs : (assignEach (e :: es) X.env).map (·.2) = assign e X.env :: (assignEach es X.env).map (·.2) := by rfl) : PGs X (e :: es) (gCons t u) := by
  intro pins s σ H vs us Q I r h
  obtain ⟨v, vr, e1, h⟩ := h
  subst e1
  cases r with
  | cons r rr =>
    rw [hs]
    refine assignInOrder_cons (thn (h1 pins s σ H _ _ _ I r h) fun _ s1 ⟨σ1, H1, I1, q1⟩ => ?_)
    exact h2 pins s1 σ1 H1 _ _ Q I1 rr q1
/-- (a, b, ..) = a tuple of that length -/
def gTup (K : PySem.W.Frag) (n : Nat) (t : TGs) : TG := fun v σ H Q => ∃ a xs, v = .ref a ∧ SqT K H a xs ∧ xs.length = n ∧ t xs σ H Q
theorem pg_tup {es : List Expr} {k : Nat} {t : TGs} {n : Nat} (hc : X.calm = true) (h : PGs X es t)
    (hn : (assignEach es X.env).length = n := by rfl) (hst : (assignEach es X.env).findIdx? (·.1) = none := by rfl) : PG X (.Tuple es k pos) (gTup X.K n t) := by
  intro pins s σ H v u Q I r hw
  obtain ⟨a, xs, e1, hq, hl, hw⟩ := hw
  subst e1
  cases r
  obtain ⟨its, rv, ht, hz⟩ := I.tuple hq
  refine assign_Tuple_tuple (I.ok.hd hc) ht (by simp [hn, ← hl, rv.length]) hst fun h' hx => ?_
  have I1 : Inv X pins σ H { s with heap := h' } := I.kept (t' := s.toks) fun b o e => hx b o (Nat.ne_of_lt (Heap.lt_size e)) e
  exact h pins _ σ H xs _ Q I1 (by simpa using rv) hw
/-- o[i] = .. -/
def gSub (to ti : TE) (t : TSet) : TG := fun v σ H Q => to σ H fun o H1 => ti σ H1 fun i H2 => t o i v H2 fun H3 => Q σ H3
/-- target = value -/
def tAsg (te : TE) (g : TG) : TS := fun D σ H => te σ H fun x H1 => g x σ H1 D.nx
theorem ps_asg {tg e : Expr} {te : TE} {g : TG} (he : PE X e te) (hg : PG X tg g) (hs : swapsWithSole [tg] e pos.line X.env = pure false := by rfl) (hw : swappedStores [tg] e X.env = pure none := by rfl)
    (h1 : (assignEach [tg] X.env).map (·.2) = [assign tg X.env] := by rfl) : PS X (.Assign [tg] e pos) (tAsg te g) := by
  intro pins s σ H D I h
  refine wpAny_Assign_stores (thn (he pins s σ H _ I h) fun v s1 ⟨x, H1, I1, r1, q1⟩ => ?_) hs hw
  rw [h1]
  exact thn (hg pins s1 σ H1 x v _ I1 r1 q1) fun _ s2 q => q
/-- name = value -/
theorem ps_set {i : Nat} {x : Str} {e : Expr} {te : TE} {pos' : Pos} (hN : X.N.Nodup) (hi : X.N[i]? = some x) (hx : Loc X.env.scope x) (he : PE X e te) (hs : swapsWith e (some (.Name x pos')) pos.line X.env = pure false := by rfl) (hf : X.fn x = true ∨ X.env.scope.names.lookup x = some .local := by first | exact .inl rfl | exact .inr rfl | assumption) :
    PS X (.Assign [.Name x pos'] e pos) (tAsg te (gName i)) := by
  intro pins s σ H D I h
  refine wpAny_Assign_Name (thn (he pins s σ H _ I h) fun v s1 ⟨y, H1, I1, r1, q1⟩ => ?_) hs
  exact store_ok I1 hN hi hx r1 (fun s2 I2 => ⟨_, H1, I2, q1⟩) hf
/-- a, b = x, y with plain local names: stored from the right; the pair itself is not tracked (the opening rows as in PyProof/Rows/TupAssign.lean:23) -/
def tPar (i j : Nat) (ta : TA) : TS := fun D σ H => ta σ H fun vs H1 => ∃ v w, vs = [v, w] ∧ D.nx ((σ.set i (some v)).set j (some w)) H1
theorem ps_par {i j : Nat} {x y : Str} {a b : Expr} {ta : TA} {px py pt : Pos} {kt k2 pt2} (hc : X.calm = true) (hN : X.N.Nodup) (hi : X.N[i]? = some x) (hj : X.N[j]? = some y) (hij : i ≠ j)
    (hx : X.env.scope.names.lookup x = some .local) (hy : X.env.scope.names.lookup y = some .local) (ha : PA X [a, b] ta)
    (hw : swappedStores [.Tuple [.Name x px, .Name y py] kt pt] (.Tuple [a, b] k2 pt2) X.env = pure (some [x, y]))
    (hs : swapsWithSole [.Tuple [.Name x px, .Name y py] kt pt] (.Tuple [a, b] k2 pt2) pos.line X.env = pure false := by rfl) :
    PS X (.Assign [.Tuple [.Name x px, .Name y py] kt pt] (.Tuple [a, b] k2 pt2) pos) (tPar i j ta) := by
  intro pins s σ H D I h
  rw [exec_Assign_arm]
  refine wpAny_bind (wpAny_standAt ?_)
  rw [hs]
  refine wpAny_bind (wpAny_pure ?_)
  rw [if_neg (by decide)]
  refine wpAny_bind (Tuple_ (thn (ha _ pins s σ H _ I h) fun us s1 ⟨vs, H1, I1, r1, q1⟩ => ?_))
  obtain ⟨v, w, e1, q1⟩ := q1
  subst e1
  obtain ⟨u1, u2, rfl, rv, rw'⟩ : ∃ u1 u2, us = [u1, u2] ∧ RelV v u1 ∧ RelV w u2 := by
    cases r1 with
    | cons p q =>
      cases q with
      | cons p' q' =>
        cases q'
        exact ⟨_, _, rfl, p, p'⟩
  refine wpAny_newObj_type ?_ (by show 2 ≤ sizeLine; decide)
  have I2 : Inv X pins σ H1 { s1 with heap := s1.heap.push { cls := .type "tuple", data := .seq [u1, u2].toArray } } := I1.kept (t' := s1.toks) fun b o e => Heap.get?_push_of_some _ e
  rw [hw]
  refine wpAny_bind (wpAny_pure ?_)
  show wpAny (model X.prog X.w) X.A (do rule "assign.swapped-stores"; let items ← unpackItems (.ref s1.heap.objs.size) 2 none; assignInOrder [fun v => bindName X.env y v, fun v => bindName X.env x v] items.reverse; pure Flow.next) _ _ _
  refine wpAny_bind (wpAny_rule (wpAny_bind (unpackItems_tuple (items := #[u1, u2]) (I.ok.hd hc) (IsTup.new s1.heap _) fun h' hx' => ?_)))
  have I3 := I2.kept (h' := h') (t' := s1.toks) fun b o e => hx' b o (Nat.ne_of_lt (Heap.lt_size e)) e
  show wpAny _ _ (assignInOrder [fun v => bindName X.env y v, fun v => bindName X.env x v] [u2, u1] >>= fun _ => pure Flow.next) _ _ _
  refine wpAny_bind (assignInOrder_cons (wpAny_bindName (store_ok I3 hN hj (.inl hy) rw' (fun s2 I4 => ?_) (.inr hy))))
  refine assignInOrder_cons (wpAny_bindName (store_ok I4 hN hi (.inl hx) rv (fun s3 I5 => assignInOrder_nil (wpAny_pure ?_)) (.inr hx)))
  rw [List.set_comm _ _ (Ne.symm hij)] at I5
  exact ⟨_, H1, I5, q1⟩
/-- name op= e -/
def tAug (i : Nat) (te : TE) (ti : TIp) : TS := fun D σ H => ∃ x, σ[i]? = some (some x) ∧ te σ H fun y H1 => ti x y H1 fun z H2 => D.nx (σ.set i (some z)) H2
theorem ps_aug {i : Nat} {x : Str} {e : Expr} {te : TE} {op : Operator} {ti : TIp} {pos' : Pos} (hN : X.N.Nodup) (hi : X.N[i]? = some x) (hx : Loc X.env.scope x) (he : PE X e te) (ho : PIp X op ti) (hf : X.fn x = true ∨ X.env.scope.names.lookup x = some .local := by first | exact .inl rfl | exact .inr rfl | assumption) :
    PS X (.AugAssign (.Name x pos') op e pos) (tAug i te ti) := by
  intro pins s σ H D I h
  obtain ⟨v, e1, h⟩ := h
  obtain ⟨m, hn, hl⟩ := I.loc
  have vis : Vis X.env.scope x := by rcases hx with k | k; exact .inl k; exact .inr (.inl k)
  obtain ⟨u, r, l⟩ := hl i x v hi e1 vis
  refine wpAny_AugAssign_Name ?_
  have go : wpAny (model X.prog X.w) X.A (eval e X.env) (fun w s₂ => wpAny (model X.prog X.w) X.A (inplaceOp op u w) (fun r s₃ => wpAny (model X.prog X.w) X.A (storeName X.env x r) (fun _ => SP X pins D .next) X.xe s₃) X.xe s₂) X.xe s := by
    refine thn (he pins s σ H _ I h) fun w s1 ⟨y, H1, I1, r1, q1⟩ => ?_
    refine thn (ho pins s1 σ H1 v y u w _ I1 r r1 q1) fun z s2 ⟨zv, H2, I2, r2, q2⟩ => ?_
    exact store_ok I2 hN hi hx r2 (fun s3 I3 => ⟨_, H2, I3, q2⟩) hf
  rcases l with ⟨hk, hm⟩ | ⟨hk, c, hc, hcell⟩
  · exact wpAny_loadName_local I.ok.kind hk hn hm go
  · rcases hk with hk | hk
    · exact wpAny_loadName_cell I.ok.kind hk hc hcell go
    · rcases hx with k | k
      · have : X.env.scope.names.lookup x = some .free := hk
        rw [k] at this; cases this
      · have : X.env.scope.names.lookup x = some .free := hk
        rw [k] at this; cases this
/-- o[i] op= e -/
def tAugS (to ti te : TE) (tget : V → V → Hp → VK → Prop) (tip : TIp) (tset : TSet) : TS := fun D σ H => to σ H fun o H1 => ti σ H1 fun i H2 => tget o i H2 fun x H3 => te σ H3 fun y H4 => tip x y H4 fun z H5 => tset o i z H5 fun H6 => D.nx σ H6
/-- o[i], by values -/
def PGet (X : Cx) (t : V → V → Hp → VK → Prop) : Prop :=
  ∀ (pins : List (Addr × Obj)) (s : Shared) (σ : St) (H : Hp) (o i : V) (ov iv : Value) (Q : VK), Inv X pins σ H s → RelV o ov → RelV i iv → t o i H Q →
    wpAny (model X.prog X.w) X.A (getItem ov iv) (EP X pins σ Q) X.xe s
/-- ints -/
def ipI (f : Int → Int → Int) : TIp := fun x y H Q => ∃ i j, x = .int i ∧ y = .int j ∧ Q (.int (f i j)) H
theorem ip_add : PIp X .Add (ipI fun i j => i + j) := by
  intro pins s σ H x y v u Q I r1 r2 h
  obtain ⟨i, j, e1, e2, q⟩ := h
  subst e1; subst e2
  obtain ⟨t, rfl⟩ := r1
  obtain ⟨t', rfl⟩ := r2
  exact iadd_int ⟨.int _, H, I.tok _, ⟨_, rfl⟩, q⟩
end

/-! ### while -/
section
variable {X : Cx} {pos : Pos}
/-- the invariant W with its measure -/
def tWhile (c : TT) (tb : TS) : TS := fun D σ H => ∃ W : Nat → St → Hp → Prop, (∃ m, W m σ H) ∧ ∀ m σ H, W m σ H →
  c σ H fun b H1 => if b = true then ∃ N : St → Hp → Prop, (∀ σ' H', N σ' H' → ∃ m', m' < m ∧ W m' σ' H') ∧ tb { D with nx := N, ct := N, bk := D.nx } σ H1 else D.nx σ H1
theorem ps_while {c : Expr} {body : List Stmt} {tc : TT} {tb : TS} (hp : PassesOwn (model X.prog X.w) X.A X.env X.xe) (hc : PT X c tc) (hb : PSs X body tb) : PS X (.While c body [] pos) (tWhile tc tb) := by
  intro pins s σ H D I h
  obtain ⟨W, ⟨m0, w0⟩, turn⟩ := h
  refine wpAny_While (codeAny_whileLoop (fun n s' => ∃ σ' H', Inv X pins σ' H' s' ∧ W n σ' H') ?_ m0 ⟨σ, H, I, w0⟩)
  rintro n s1 ⟨σ1, H1, I1, w1⟩
  refine wpAny_passesOwn hp (thn (hc pins s1 σ1 H1 _ I1 (turn n σ1 H1 w1)) fun b s2 ⟨H2, I2, q2⟩ => ?_)
  cases b with
  | true =>
    obtain ⟨N, hN, q2⟩ := q2
    rw [if_pos rfl]
    refine wpAny_passesOwn hp (thn (hb pins s2 σ1 H2 _ I2 q2) fun f s3 q3 => ?_)
    cases f with
    | next =>
      obtain ⟨σ3, H3, I3, n3⟩ := q3
      obtain ⟨m', hm, w3⟩ := hN σ3 H3 n3
      exact ⟨m', hm, σ3, H3, I3, w3⟩
    | cont =>
      obtain ⟨σ3, H3, I3, n3⟩ := q3
      obtain ⟨m', hm, w3⟩ := hN σ3 H3 n3
      exact ⟨m', hm, σ3, H3, I3, w3⟩
    | brk => exact q3
    | ret v => exact q3
  | false =>
    rw [if_neg Bool.false_ne_true]
    exact wpAny_execs_nil ⟨σ1, H2, I2, q2⟩
end

/-! ### what a loop or a comprehension walks -/
/-- at turn i: it yields x (the heap may grow), or it stops -/
structure It where
  go : Nat → Hp → Prop
  yld : Nat → Hp → V → Hp → Prop
  stop : Nat → Hp → Prop
/-- the iterator's own objects may turn: they are not the frame's, not pinned, younger than the entry (or a comprehension's own) -/
def FpOk (X : Cx) (pins : List (Addr × Obj)) (H : Hp) (b : Addr) : Prop :=
  H b = none ∧ b ≠ X.env.locals ∧ b ∉ X.fs ∧ (b ∈ X.ex ∨ X.s₀.heap.objs.size ≤ b) ∧ (∀ x c, X.env.cells.lookup x = some c → c ≠ b) ∧ ∀ p ∈ X.pn ++ pins, p.1 ≠ b
theorem Inv.fpOk {X : Cx} {pins : List (Addr × Obj)} {σ : St} {H H' : Hp} {s : Shared} {b : Addr} (I : Inv X pins σ H s) (hb : s.heap.objs.size ≤ b) (hn : H' b = none) : FpOk X pins H' b := by
  refine ⟨hn, Nat.ne_of_gt (Nat.lt_of_lt_of_le I.lt hb), I.nofs hb, .inr (Nat.le_trans I.sz hb), fun x c e z => ?_, fun p hp z => ?_⟩
  · obtain ⟨v, q⟩ := I.cell x c e
    exact absurd (Nat.lt_of_lt_of_le q.lt (by rw [z]; exact hb)) (Nat.lt_irrefl _)
  · exact absurd (Nat.lt_of_lt_of_le (Heap.lt_size (I.pin p hp).1) (by rw [z]; exact hb)) (Nat.lt_irrefl _)
structure Turn (P : Program) (w : World) (K : PySem.W.Frag) (tg : Expr) (J : It) (fp : List Addr) (it : Addr) (tn : Nat → Heap → Prop) : Prop where
  mem : it ∈ fp
  obj : ∀ i h, tn i h → ∀ b ∈ fp, ∃ o, h.get? b = some o ∧ ∀ v, o.data ≠ .cell v
  keep : ∀ i h h', tn i h → (∀ b ∈ fp, ∀ o, h.get? b = some o → h'.get? b = some o) → tn i h'
  item : ∀ (X : Cx), X.prog = P → X.w = w → X.K = K → X.calm = true → ∀ (i : Nat) (pins : List (Addr × Obj)) (s : Shared) (σ : St) (H : Hp) (E : Value → Shared → Prop), Inv X pins σ H s → (∀ b ∈ fp, FpOk X pins H b) → tn i s.heap → J.go i H →
    wpAny (model P w) X.A (pyNext (.ref it)) (fun r s1 => ∃ u, r = some u ∧
      wpAny (model P w) X.A (letOwnedTupleGo tg (.ref it) u) (fun _ s2 => ∃ x H', Inv X pins σ H' s2 ∧ RelV x u ∧ J.yld i H x H' ∧ tn (i + 1) s2.heap ∧ ∀ b ∈ fp, H' b = none) E s1) E s
  done : ∀ (X : Cx), X.prog = P → X.w = w → X.K = K → X.calm = true → ∀ (i : Nat) (pins : List (Addr × Obj)) (s : Shared) (σ : St) (H : Hp) (E : Value → Shared → Prop), Inv X pins σ H s → (∀ b ∈ fp, FpOk X pins H b) → tn i s.heap → J.stop i H →
    wpAny (model P w) X.A (pyNext (.ref it)) (fun r s1 => r = none ∧ Inv X pins σ H s1) E s
  self : ∀ (A : Around) (i : Nat) (s : Shared) (Q : Value → Shared → Prop) (E : Value → Shared → Prop), tn i s.heap → Q (.ref it) s → wpAny (model P w) A (pyIter (.ref it)) Q E s
abbrev TI := St → Hp → (It → Hp → Prop) → Prop
/-- an iterator has come -/
def PIE (X : Cx) (pins : List (Addr × Obj)) (σ : St) (tg : Expr) (R : It → Hp → Prop) (itv : Value) (s2 : Shared) : Prop :=
  ∃ (it : Addr) (fp : List Addr) (tn : Nat → Heap → Prop) (J : It) (H' : Hp), itv = .ref it ∧ Inv X pins σ H' s2 ∧ Turn X.prog X.w X.K tg J fp it tn ∧ tn 0 s2.heap ∧ (∀ b ∈ fp, FpOk X pins H' b) ∧ R J H'
def PI (X : Cx) (tg iter : Expr) (wi : TI) : Prop :=
  ∀ (pins : List (Addr × Obj)) (s : Shared) (σ : St) (H : Hp) (R : It → Hp → Prop), Inv X pins σ H s → wi σ H R →
    wpAny (model X.prog X.w) X.A (eval iter X.env) (fun v s1 => wpAny (model X.prog X.w) X.A (pyIter v) (PIE X pins σ tg R) X.xe s1) X.xe s

/-- the step ahead of the store is nothing for an iterator that keeps no tuple -/
theorem go_of {M : Model} {A : Around} {E : Value → Shared → Prop} {s : Shared} {tg : Expr} {it : Addr} {u : Value} {o : Obj} {n : String} {vs : Array Value} {Q : Unit → Shared → Prop} (ho : s.heap.get? it = some o) (hc : o.cls = .type n) (hd : o.data = .fields vs)
    (hn : ["enumerate", "zip", "dict_itemiterator", "dict_reverseitemiterator", "odict_iterator", "itertools.zip_longest", "itertools.pairwise"].contains n = false) (hQ : Q () s) : wpAny M A (letOwnedTupleGo tg (.ref it) u) Q E s := by
  unfold letOwnedTupleGo
  cases tg <;> first
    | exact wpAny_pure hQ
    | (cases u <;> first
        | exact wpAny_pure hQ
        | (refine wpAny_bind (wpAny_load ho ?_)
           rw [hc, hd]
           show wpAny M A (if (["enumerate", "zip", "dict_itemiterator", "dict_reverseitemiterator", "odict_iterator", "itertools.zip_longest", "itertools.pairwise"].contains n && vs[0]? == some (rawInt _)) = true then _ else _) Q E s
           rw [if_neg (by intro h; rw [hn, Bool.false_and] at h; cases h)]
           exact wpAny_pure hQ))

/-- the list at a, as it stands at each turn (a loop may append to it) -/
def Itl (K : PySem.W.Frag) (a : Addr) : It :=
  ⟨fun i H => ∃ xs x, SqL K H a xs ∧ xs[i]? = some x, fun i H x H' => H' = H ∧ ∀ xs, SqL K H a xs → xs[i]? = some x, fun i H => ∃ xs, SqL K H a xs ∧ xs.length ≤ i⟩
def Itt (K : PySem.W.Frag) (a : Addr) : It :=
  ⟨fun i H => ∃ xs x, SqT K H a xs ∧ xs[i]? = some x, fun i H x H' => H' = H ∧ ∀ xs, SqT K H a xs → xs[i]? = some x, fun i H => ∃ xs, SqT K H a xs ∧ xs.length ≤ i⟩
/-- lo, lo + 1, .. (n of them) -/
def Itr (lo : Int) (n : Nat) : It := ⟨fun i _ => i < n, fun i H x H' => H' = H ∧ x = .int (lo + i), fun i _ => n ≤ i⟩
theorem turn_list {P : Program} {w : World} {K : PySem.W.Frag} {tg : Expr} (a it : Addr) : Turn P w K tg (Itl K a) [it] it (fun i h => h.IsListIter it a i) where
  mem := by simp
  obj := fun i h st b hb => by
    have e : b = it := by simpa using hb
    subst e
    obtain ⟨o, e, c, d⟩ := st
    exact ⟨o, e, fun v z => by rw [d] at z; cases z⟩
  keep := fun i h h' st k => st.at fun o e => k it (by simp) o e
  item := by
    intro X hP hw hK hc i pins s σ H E I hf st hg
    subst hP hw hK
    obtain ⟨xs, x, hq, hx⟩ := hg
    obtain ⟨its, rv, p, hz⟩ := I.list hq
    obtain ⟨u, hu, ru⟩ := rv.get hx
    obtain ⟨f0, f1, f2, f3, f4, f5⟩ := hf it (by simp)
    refine wpAny_pyNext_list_item st p.isList (x := u) (by simpa using hu) fun h' st' sb => ?_
    have I1 : Inv X pins σ H { s with heap := h' } := I.turned (t' := s.toks) (fun b o hb e => (sb.2 b hb).trans e) f0 f1 f3 f4 f5
    obtain ⟨o, e, c, d⟩ := id st'
    exact ⟨u, rfl, go_of (s := { s with heap := h' }) e c d (by decide) ⟨x, H, I1, ru, ⟨rfl, fun ys hy => by rw [I.list_inj hy hq]; exact hx⟩, st', fun b hb => (hf b hb).1⟩⟩
  done := by
    intro X hP hw hK hc i pins s σ H E I hf st hg
    subst hP hw hK
    obtain ⟨xs, hq, hx⟩ := hg
    obtain ⟨its, rv, p, hz⟩ := I.list hq
    obtain ⟨f0, f1, f2, f3, f4, f5⟩ := hf it (by simp)
    have hl := rv.length
    exact wpAny_pyNext_list_end (I.ok.hd hc) st p.isList (by simp; omega) fun h' eb => ⟨rfl, I.turned (t' := s.toks) (fun b o hb e => eb b o hb e) f0 f1 f3 f4 f5⟩
  self := fun _ _ _ _ _ st h => wpAny_pyIter_listiter st h
theorem turn_range {P : Program} {w : World} {K : PySem.W.Frag} {tg : Expr} (it : Addr) (lo : Int) (n : Nat) : Turn P w K tg (Itr lo n) [it] it (fun i h => IsRangeIter h it (lo + (i : Nat) * 1) ((n : Int) - (i : Nat)) 1) where
  mem := by simp
  obj := fun i h st b hb => by
    have e : b = it := by simpa using hb
    subst e
    exact ⟨_, st, fun v z => by
      have z' : Data.fields _ = Data.cell v := z
      cases z'⟩
  keep := fun i h h' st k => k it (by simp) _ st
  item := by
    intro X hP hw hK hc i pins s σ H E I hf st hg
    subst hP hw hK
    obtain ⟨f0, f1, f2, f3, f4, f5⟩ := hf it (by simp)
    have W := Walks.range (prog := X.prog) (w := X.w) (I.ok.hd hc) it lo 1 n
    refine W.item i s _ _ hg st fun v h' tk hv st' kk => ?_
    obtain ⟨t, rfl⟩ := hv
    have I1 : Inv X pins σ H { s with heap := h', toks := tk } := I.turned (fun b o hb e => kk b o (by simpa using hb) e) f0 f1 f3 f4 f5
    refine ⟨_, rfl, go_of (s := { s with heap := h', toks := tk }) (n := "range_iterator") st' rfl rfl (by decide) ⟨.int (lo + i), H, I1, ⟨t, ?_⟩, ⟨rfl, rfl⟩, st', fun b hb => (hf b hb).1⟩⟩
    rw [Int.mul_one]
  done := by
    intro X hP hw hK hc i pins s σ H E I hf st hg
    subst hP hw hK
    obtain ⟨f0, f1, f2, f3, f4, f5⟩ := hf it (by simp)
    exact wpAny_pyNext_range_end (I.ok.hd hc) st (by have : n ≤ i := hg; omega) fun h' eb => ⟨rfl, I.turned (t' := s.toks) (fun b o hb e => eb b o hb e) f0 f1 f3 f4 f5⟩
  self := fun _ _ _ _ _ st h => wpAny_pyIter_rangeiter st h
end L2

namespace L2
open PySem PySem.Spec PyProof.Rows
section
variable {X : Cx} {tg : Expr}
def iList (K : PySem.W.Frag) (tl : TE) : TI := fun σ H R => tl σ H fun x H1 => ∃ a, x = .ref a ∧ (∃ xs, SqL K H1 a xs) ∧ R (Itl K a) H1
def iTup (K : PySem.W.Frag) (tl : TE) : TI := fun σ H R => tl σ H fun x H1 => ∃ a, x = .ref a ∧ (∃ xs, SqT K H1 a xs) ∧ R (Itt K a) H1
theorem pi_list {l : Expr} {tl : TE} (hl : PE X l tl) : PI X tg l (iList X.K tl) := by
  intro pins s σ H R I h
  refine thn (hl pins s σ H _ I h) fun v s1 ⟨x, H1, I1, r1, q1⟩ => ?_
  obtain ⟨a, e, ⟨xs, hq⟩, q⟩ := q1
  subst e
  cases r1
  obtain ⟨its, rv, p, hz⟩ := I1.list hq
  refine wpAny_pyIter_list p.isList ?_
  refine ⟨s1.heap.objs.size, [s1.heap.objs.size], _, _, H1, rfl, I1.kept (t' := s1.toks) fun b o e => Heap.get?_push_of_some _ e, turn_list a _, ⟨_, Heap.get?_push_size _ rfl, rfl, rfl⟩, fun b hb => ?_, q⟩
  have e : b = s1.heap.objs.size := by simpa using hb
  subst e
  exact I1.fpOk (Nat.le_refl _) (I1.hok.fresh (Nat.le_refl _))
/-- a range object just made, walked -/
theorem range_it {pins : List (Addr × Obj)} {σ : St} {H : Hp} {s : Shared} {R : It → Hp → Prop} {E : Value → Shared → Prop} {lo hi : Int} {t u v : Tok} {tk : Nat} (I : Inv X pins σ H s) (h1 : -(2 ^ 62) ≤ lo) (h2 : lo < 2 ^ 62) (h3 : -(2 ^ 62) ≤ hi) (h4 : hi < 2 ^ 62)
    (q : R (Itr lo (hi - lo).toNat) H) : wpAny (model X.prog X.w) X.A (pyIter (.ref s.heap.objs.size)) (PIE X pins σ tg R) E { s with heap := s.heap.push { cls := .type "range", data := .fields #[.int lo t, .int hi u, .int 1 v] }, toks := tk } := by
  refine wpAny_pyIter_range (IsRange.new ..) (small_one h1 h2 h3 h4) ?_
  have I1 : Inv X pins σ H { s with heap := s.heap.push { cls := .type "range", data := .fields #[.int lo t, .int hi u, .int 1 v] }, toks := tk } := I.kept fun b o e => Heap.get?_push_of_some _ e
  refine ⟨(s.heap.push { cls := .type "range", data := .fields #[.int lo t, .int hi u, .int 1 v] }).objs.size, [(s.heap.push { cls := .type "range", data := .fields #[.int lo t, .int hi u, .int 1 v] }).objs.size], _, _, H, rfl,
    I1.kept (t' := tk) fun b o e => Heap.get?_push_of_some _ e, turn_range _ lo (hi - lo).toNat, ?_, fun b hb => ?_, q⟩
  · have e1 : lo + ((0 : Nat) : Int) * 1 = lo := by simp
    have e2 : (((hi - lo).toNat : Nat) : Int) - ((0 : Nat) : Int) = Builtin.Range.rangeSize lo hi 1 := by rw [rangeSize_one]; split <;> omega
    show IsRangeIter _ _ (lo + ((0 : Nat) : Int) * 1) ((((hi - lo).toNat : Nat) : Int) - ((0 : Nat) : Int)) 1
    rw [e1, e2]
    exact Heap.get?_push_size _ rfl
  · have e : b = (s.heap.push { cls := .type "range", data := .fields #[.int lo t, .int hi u, .int 1 v] }).objs.size := by simpa using hb
    subst e
    exact I1.fpOk (Nat.le_refl _) (I1.hok.fresh (Nat.le_refl _))
def iRng1 (ta : TA) : TI := fun σ H R => ta σ H fun vs H1 => ∃ j : Int, vs = [.int j] ∧ -(2 ^ 62) ≤ j ∧ j < 2 ^ 62 ∧ R (Itr 0 j.toNat) H1
def iRng2 (ta : TA) : TI := fun σ H R => ta σ H fun vs H1 => ∃ i j : Int, vs = [.int i, .int j] ∧ (-(2 ^ 62) ≤ i ∧ i < 2 ^ 62 ∧ -(2 ^ 62) ≤ j ∧ j < 2 ^ 62) ∧ R (Itr i (j - i).toNat) H1
theorem pi_range1 {a : Expr} {ta : TA} {p pos : Pos} (hg : Gl X "range") (hm : X.mg "range" = none) (ha : PA X [a] ta) (hs : starEach [a] X.env = [(false, eval a X.env)] := by rfl) : PI X tg (.Call (.Name "range" p) [a] [] pos) (iRng1 ta) := by
  intro pins s σ H R I h
  refine Call_ (ld_blt I hg hm boot_range (PyProof.Rows.callWith_type1 (thn (ha pos pins s σ H _ I h) fun us s1 ⟨vs, H1, I1, r1, q1⟩ => ?_) hs rfl))
  obtain ⟨j, e, q1, q2, q⟩ := q1
  subst e
  cases r1 with
  | cons r rr =>
    cases rr
    obtain ⟨t, rfl⟩ := r
    exact call_range_1 (range_it I1 (by omega) (by omega) q1 q2 (by simpa using q))
/-! ### for -/
/-- W: the invariant by the turn and a measure; N: what the body is to reach -/
def tFor (wi : TI) (g : TG) (tb : TS) : TS := fun D σ H => wi σ H fun J H1 => ∃ W : Nat → Nat → St → Hp → Prop, (∃ m, W 0 m σ H1) ∧ ∀ i m σ H, W i m σ H →
  (J.stop i H ∧ D.nx σ H) ∨ (J.go i H ∧ ∃ N : St → Hp → Prop, (∀ σ' H', N σ' H' → ∃ m', m' < m ∧ W (i + 1) m' σ' H') ∧ ∀ x H', J.yld i H x H' → g x σ H' fun σ2 H2 => tb { D with nx := N, ct := N, bk := D.nx } σ2 H2)
/-- the records at fp as they stand -/
def pinsAt (fp : List Addr) (h : Heap) : List (Addr × Obj) := fp.filterMap fun b => (h.get? b).map fun o => (b, o)
theorem mem_pinsAt {fp : List Addr} {h : Heap} {b : Addr} {o : Obj} (hb : b ∈ fp) (e : h.get? b = some o) : (b, o) ∈ pinsAt fp h := List.mem_filterMap.mpr ⟨b, hb, by rw [e]; rfl⟩
theorem of_pinsAt {fp : List Addr} {h : Heap} {p : Addr × Obj} (hp : p ∈ pinsAt fp h) : p.1 ∈ fp ∧ h.get? p.1 = some p.2 := by
  obtain ⟨b, hb, e⟩ := List.mem_filterMap.mp hp
  cases q : h.get? b with
  | none => rw [q] at e; cases e
  | some o =>
    rw [q] at e
    have e' : (b, o) = p := Option.some.inj e
    subst e'
    exact ⟨hb, q⟩
theorem Inv.pinned {pins : List (Addr × Obj)} {σ : St} {H : Hp} {s : Shared} {fp : List Addr} (I : Inv X pins σ H s) (hf : ∀ b ∈ fp, FpOk X pins H b) (ho : ∀ b ∈ fp, ∃ o, s.heap.get? b = some o ∧ ∀ v, o.data ≠ .cell v) : Inv X (pins ++ pinsAt fp s.heap) σ H s :=
  I.pins_of fun p hp => (List.mem_append.mp hp).elim (fun z => I.pin p (List.mem_append_right _ z)) fun z => by
    obtain ⟨hb, e⟩ := of_pinsAt z
    obtain ⟨f0, f1, f2, _⟩ := hf p.1 hb
    obtain ⟨o, e', d⟩ := ho p.1 hb
    rw [e] at e'; cases e'
    exact ⟨e, f0, f1, f2, d⟩
theorem Inv.unpinned {pins pl : List (Addr × Obj)} {σ : St} {H : Hp} {s : Shared} (I : Inv X (pins ++ pl) σ H s) : Inv X pins σ H s := I.pins_of fun p hp => I.pin p (List.mem_append_right _ (List.mem_append_left _ hp))
theorem ps_for {iter : Expr} {body : List Stmt} {wi : TI} {g : TG} {tb : TS} {pos : Pos} (hp : PassesOwn (model X.prog X.w) X.A X.env X.xe) (hc : X.calm = true) (hi : PI X tg iter wi) (hg : PG X tg g) (hb : PSs X body tb)
    (hs : ∀ x, foldedSetIterable iter X.env x = pure x := by intro _; rfl) : PS X (.For tg iter body [] pos) (tFor wi g tb) := by
  intro pins s σ H D I h
  refine wpAny_For (thn (hi pins s σ H _ I h) fun v s1 h1 => thn h1 fun itv s2 h2 => ?_) hs
  obtain ⟨it, fp, tn, J, H2, e, I2, T, st2, f2, W, ⟨m0, w0⟩, turn⟩ := h2
  subst e
  -- what stays true of the iterator's objects through the loop
  have stat : ∀ {H' : Hp}, (∀ b ∈ fp, H' b = none) → ∀ b ∈ fp, FpOk X pins H' b := fun hn b hb => ⟨hn b hb, (f2 b hb).2⟩
  refine codeAny_forLoop_any (fun n s' => ∃ i σ' H', Inv X pins σ' H' s' ∧ tn i s'.heap ∧ (∀ b ∈ fp, H' b = none) ∧ W i n σ' H') ?_ m0 ⟨0, σ, H2, I2, st2, fun b hb => (f2 b hb).1, w0⟩
  rintro n s3 ⟨i, σ3, H3, I3, st3, fr3, w3⟩
  rcases turn i n σ3 H3 w3 with ⟨stop, qn⟩ | ⟨go, N, hN, step⟩
  · refine wpAny_passesOwn hp (thn (T.done X rfl rfl rfl hc i pins s3 σ3 H3 X.xe I3 (stat fr3) st3 stop) fun r s4 ⟨hr, I4⟩ => ?_)
    subst hr
    exact wpAny_execs_nil ⟨σ3, H3, I4, qn⟩
  · refine wpAny_passesOwn hp (thn (T.item X rfl rfl rfl hc i pins s3 σ3 H3 X.xe I3 (stat fr3) st3 go) fun r s4 ⟨u, hr, h4⟩ => ?_)
    subst hr
    refine wpAny_passesOwn hp (thn h4 fun _ s5 ⟨x, H5, I5, r5, y5, st5, fr5⟩ => ?_)
    have I5' := I5.pinned (stat fr5) (T.obj _ _ st5)
    refine wpAny_passesOwn hp (thn (hg _ s5 σ3 H5 x u _ I5' r5 (step x H5 y5)) fun _ s6 ⟨σ6, H6, I6, q6⟩ => ?_)
    refine wpAny_passesOwn hp (thn (hb _ s6 σ6 H6 _ I6 q6) fun f s7 q7 => ?_)
    have again : ∀ {σ7 : St} {H7 : Hp}, Inv X (pins ++ pinsAt fp s5.heap) σ7 H7 s7 → N σ7 H7 → ∃ m, m < n ∧ ∃ i σ' H', Inv X pins σ' H' s7 ∧ tn i s7.heap ∧ (∀ b ∈ fp, H' b = none) ∧ W i m σ' H' := fun {σ7 H7} I7 n7 => by
      obtain ⟨m', hm, w7⟩ := hN σ7 H7 n7
      refine ⟨m', hm, i + 1, σ7, H7, I7.unpinned, T.keep _ _ _ st5 fun b hb o e => (I7.pin (b, o) (List.mem_append_right _ (List.mem_append_right _ (mem_pinsAt hb e)))).1, fun b hb => ?_, w7⟩
      obtain ⟨o, e, d⟩ := T.obj _ _ st5 b hb
      exact (I7.pin (b, o) (List.mem_append_right _ (List.mem_append_right _ (mem_pinsAt hb e)))).2.1
    cases f with
    | next => obtain ⟨σ7, H7, I7, n7⟩ := q7; exact again I7 n7
    | cont => obtain ⟨σ7, H7, I7, n7⟩ := q7; exact again I7 n7
    | brk => obtain ⟨σ7, H7, I7, q7⟩ := q7; exact ⟨σ7, H7, I7.unpinned, q7⟩
    | ret v => obtain ⟨x7, σ7, H7, I7, r7, q7⟩ := q7; exact ⟨x7, σ7, H7, I7.unpinned, r7, q7⟩
end

/-! ### the forms one uses -/
/-- over a list that the body leaves as it is -/
theorem for_list {K : PySem.W.Frag} {a : Addr} {xs : List V} {g : TG} {tb : TS} {D : Ends} {σ : St} {H : Hp} (Pv : Nat → St → Hp → Prop) (h0 : Pv 0 σ H) (hl : ∀ i σ H, i ≤ xs.length → Pv i σ H → SqL K H a xs)
    (hs : ∀ i x σ H, xs[i]? = some x → Pv i σ H → g x σ H fun σ2 H2 => tb { D with nx := Pv (i + 1), ct := Pv (i + 1), bk := D.nx } σ2 H2) (hd : ∀ σ H, Pv xs.length σ H → D.nx σ H) :
    ∃ W : Nat → Nat → St → Hp → Prop, (∃ m, W 0 m σ H) ∧ ∀ i m σ H, W i m σ H →
      ((Itl K a).stop i H ∧ D.nx σ H) ∨ ((Itl K a).go i H ∧ ∃ N : St → Hp → Prop, (∀ σ' H', N σ' H' → ∃ m', m' < m ∧ W (i + 1) m' σ' H') ∧ ∀ x H', (Itl K a).yld i H x H' → g x σ H' fun σ2 H2 => tb { D with nx := N, ct := N, bk := D.nx } σ2 H2) := by
  refine ⟨fun i m σ H => m = xs.length - i ∧ i ≤ xs.length ∧ Pv i σ H, ⟨xs.length, by simp, Nat.zero_le _, h0⟩, ?_⟩
  rintro i m σ H ⟨rfl, hi, p⟩
  have q := hl i σ H hi p
  by_cases hlt : i < xs.length
  · refine .inr ⟨⟨xs, xs[i], q, by simp [hlt]⟩, Pv (i + 1), fun σ' H' p' => ⟨xs.length - (i + 1), by omega, rfl, hlt, p'⟩, fun x H' y => ?_⟩
    obtain ⟨e, y⟩ := y
    subst e
    exact hs i x σ _ (y xs q) p
  · have e : i = xs.length := by omega
    subst e
    exact .inl ⟨⟨xs, q, Nat.le_refl _⟩, hd σ H p⟩
theorem for_range {lo : Int} {n : Nat} {g : TG} {tb : TS} {D : Ends} {σ : St} {H : Hp} (Pv : Nat → St → Hp → Prop) (h0 : Pv 0 σ H)
    (hs : ∀ i σ H, i < n → Pv i σ H → g (.int (lo + i)) σ H fun σ2 H2 => tb { D with nx := Pv (i + 1), ct := Pv (i + 1), bk := D.nx } σ2 H2) (hd : ∀ σ H, Pv n σ H → D.nx σ H) :
    ∃ W : Nat → Nat → St → Hp → Prop, (∃ m, W 0 m σ H) ∧ ∀ i m σ H, W i m σ H →
      ((Itr lo n).stop i H ∧ D.nx σ H) ∨ ((Itr lo n).go i H ∧ ∃ N : St → Hp → Prop, (∀ σ' H', N σ' H' → ∃ m', m' < m ∧ W (i + 1) m' σ' H') ∧ ∀ x H', (Itr lo n).yld i H x H' → g x σ H' fun σ2 H2 => tb { D with nx := N, ct := N, bk := D.nx } σ2 H2) := by
  refine ⟨fun i m σ H => m = n - i ∧ i ≤ n ∧ Pv i σ H, ⟨n, by simp, Nat.zero_le _, h0⟩, ?_⟩
  rintro i m σ H ⟨rfl, hi, p⟩
  by_cases hlt : i < n
  · refine .inr ⟨hlt, Pv (i + 1), fun σ' H' p' => ⟨n - (i + 1), by omega, rfl, hlt, p'⟩, fun x H' y => ?_⟩
    obtain ⟨e, y⟩ := y
    subst e y
    exact hs i σ _ hlt p
  · have e : i = n := by omega
    subst e
    exact .inl ⟨Nat.le_refl _, hd σ H p⟩
end L2

namespace L2
open PySem PySem.Spec PyProof.Rows

abbrev R2 := V → V → Hp → VK → Prop
/-- a two-place operation on values: f is binaryOp op, inplaceOp op or compareOp op -/
def OpR (X : Cx) (f : Value → Value → Sem Value) (r : R2) : Prop :=
  ∀ (pins : List (Addr × Obj)) (s : Shared) (σ : St) (H : Hp) (x y : V) (v u : Value) (Q : VK), Inv X pins σ H s → RelV x v → RelV y u → r x y H Q →
    wpAny (model X.prog X.w) X.A (f v u) (EP X pins σ Q) X.xe s
/-- a one-place operation -/
def UnR (X : Cx) (f : Value → Sem Value) (r : V → Hp → VK → Prop) : Prop :=
  ∀ (pins : List (Addr × Obj)) (s : Shared) (σ : St) (H : Hp) (x : V) (v : Value) (Q : VK), Inv X pins σ H s → RelV x v → r x H Q →
    wpAny (model X.prog X.w) X.A (f v) (EP X pins σ Q) X.xe s
/-- a call of a value that is known (a builtin, a type) with values -/
def CallR (X : Cx) (f : Value) (r : List V → Hp → VK → Prop) : Prop :=
  ∀ (pins : List (Addr × Obj)) (s : Shared) (σ : St) (H : Hp) (xs : List V) (us : List Value) (Q : VK), Inv X pins σ H s → Vals xs us → r xs H Q →
    wpAny (model X.prog X.w) X.A (call f us) (EP X pins σ Q) X.xe s
/-- a value's truth -/
def TruR (X : Cx) (r : V → Hp → (Bool → Hp → Prop) → Prop) : Prop :=
  ∀ (pins : List (Addr × Obj)) (s : Shared) (σ : St) (H : Hp) (x : V) (v : Value) (Q : Bool → Hp → Prop), Inv X pins σ H s → RelV x v → r x H Q →
    wpAny (model X.prog X.w) X.A (truthy v) (TP X pins σ Q) X.xe s

def tOp (r : R2) (ta tb : TE) : TE := fun σ H Q => ta σ H fun x H1 => tb σ H1 fun y H2 => r x y H2 Q
def tUn (r : V → Hp → VK → Prop) (ta : TE) : TE := fun σ H Q => ta σ H fun x H1 => r x H1 Q
/-- ints in, under C, and a value out -/
def rI (C : Int → Int → Prop) (g : Int → Int → V) : R2 := fun x y H Q => ∃ i j, x = .int i ∧ y = .int j ∧ C i j ∧ Q (g i j) H
def rI0 (g : Int → Int → V) : R2 := fun x y H Q => ∃ i j, x = .int i ∧ y = .int j ∧ Q (g i j) H
def rU (g : Int → V) : V → Hp → VK → Prop := fun x H Q => ∃ i, x = .int i ∧ Q (g i) H

section
variable {X : Cx} {a b c : Expr} {ta tb tc : TE} {pos : Pos}

theorem binT (ha : PE X a ta) (hb : PE X b tb) {pins : List (Addr × Obj)} {s : Shared} {σ : St} {H : Hp} {R : V → V → Hp → Prop} (I : Inv X pins σ H s)
    (h : ta σ H fun x H1 => tb σ H1 fun y H2 => R x y H2) {Q : Value → Shared → Prop} {f : Value → Value → Sem Value}
    (hf : ∀ v u s2 x y H2, Inv X pins σ H2 s2 → RelV x v → RelV y u → R x y H2 → wpAny (model X.prog X.w) X.A (f v u) Q X.xe s2) :
    wpAny (model X.prog X.w) X.A (eval a X.env) (fun v s₁ => wpAny (model X.prog X.w) X.A (eval b X.env) (fun u s₂ => wpAny (model X.prog X.w) X.A (f v u) Q X.xe s₂) X.xe s₁) X.xe s := by
  refine thn (ha pins s σ H _ I h) fun v s1 ⟨x, H1, I1, r1, q1⟩ => ?_
  refine thn (hb pins s1 σ H1 _ I1 q1) fun u s2 ⟨y, H2, I2, r2, q2⟩ => ?_
  exact hf v u s2 x y H2 I2 r1 r2 q2

theorem pe_op {op : Operator} {r : R2} (ho : OpR X (binaryOp op) r) (ha : PE X a ta) (hb : PE X b tb) : PE X (.BinOp a op b pos) (tOp r ta tb) := by
  intro pins s σ H Q I h
  exact wpAny_BinOp (binT ha hb I h fun v u s2 x y H2 I2 rx ry q => ho pins s2 σ H2 x y v u Q I2 rx ry q)
theorem pe_un {op : UnaryOp} {r : V → Hp → VK → Prop} (ho : UnR X (unaryOp op) r) (ha : PE X a ta) : PE X (.UnaryOp op a pos) (tUn r ta) := by
  intro pins s σ H Q I h
  exact UnaryOp_ (thn (ha pins s σ H _ I h) fun v s1 ⟨x, H1, I1, r1, q1⟩ => ho pins s1 σ H1 x v Q I1 r1 q1)
/-! ### ints -/
theorem opI {f : Value → Value → Sem Value} {C : Int → Int → Prop} {g : Int → Int → Int}
    (rule : ∀ (i j : Int) (t u : Tok) (s : Shared) (Q : Value → Shared → Prop) (E : Value → Shared → Prop), C i j → Q (.int (g i j) s.toks) { s with toks := s.toks + 1 } → wpAny (model X.prog X.w) X.A (f (.int i t) (.int j u)) Q E s) :
    OpR X f (rI C fun i j => .int (g i j)) := by
  intro pins s σ H x y v u Q I rx ry h
  obtain ⟨i, j, rfl, rfl, hc, q⟩ := h
  obtain ⟨t, rfl⟩ := rx
  obtain ⟨t', rfl⟩ := ry
  exact rule i j t t' s _ _ hc ⟨.int (g i j), H, I.tok _, ⟨_, rfl⟩, q⟩
theorem opI0 {f : Value → Value → Sem Value} {g : Int → Int → Int}
    (rule : ∀ (i j : Int) (t u : Tok) (s : Shared) (Q : Value → Shared → Prop) (E : Value → Shared → Prop), Q (.int (g i j) s.toks) { s with toks := s.toks + 1 } → wpAny (model X.prog X.w) X.A (f (.int i t) (.int j u)) Q E s) :
    OpR X f (rI0 fun i j => .int (g i j)) := by
  intro pins s σ H x y v u Q I rx ry h
  obtain ⟨i, j, rfl, rfl, q⟩ := h
  obtain ⟨t, rfl⟩ := rx
  obtain ⟨t', rfl⟩ := ry
  exact rule i j t t' s _ _ ⟨.int (g i j), H, I.tok _, ⟨_, rfl⟩, q⟩
theorem opB0 {f : Value → Value → Sem Value} {g : Int → Int → Bool}
    (rule : ∀ (i j : Int) (t u : Tok) (s : Shared) (Q : Value → Shared → Prop) (E : Value → Shared → Prop), Q (.bool (g i j)) s → wpAny (model X.prog X.w) X.A (f (.int i t) (.int j u)) Q E s) :
    OpR X f (rI0 fun i j => .bl (g i j)) := by
  intro pins s σ H x y v u Q I rx ry h
  obtain ⟨i, j, rfl, rfl, q⟩ := h
  obtain ⟨t, rfl⟩ := rx
  obtain ⟨t', rfl⟩ := ry
  exact rule i j t t' s _ _ ⟨.bl (g i j), H, I, rfl, q⟩

def CDiv (i j : Int) : Prop := 0 < j ∧ j < 1073741824
def CDivN (i j : Int) : Prop := j ≠ 0 ∧ j.natAbs < 1073741824
def CPow (i j : Int) : Prop := 0 ≤ j ∧ j ≤ 1000000 ∧ i.natAbs < 2 ^ 64
def CMul (i j : Int) : Prop := (-(2 ^ 64) < i ∧ i < 2 ^ 64) ∨ (-(2 ^ 64) < j ∧ j < 2 ^ 64)
theorem CMul.ok {i j : Int} (h : CMul i j) : IntMulOk i j := by
  rcases h with ⟨h1, h2⟩ | ⟨h1, h2⟩
  · exact .of_left (intBits_le_64 h1 h2)
  · exact .of_right (intBits_le_64 h1 h2)
theorem op_add : OpR X (binaryOp .Add) (rI0 fun i j => .int (i + j)) := opI0 fun _ _ _ _ _ _ _ q => add_int q
theorem op_sub : OpR X (binaryOp .Sub) (rI0 fun i j => .int (i - j)) := opI0 fun _ _ _ _ _ _ _ q => sub_int q
theorem op_mul : OpR X (binaryOp .Mult) (rI CMul fun i j => .int (i * j)) := opI fun _ _ _ _ _ _ _ hc q => mul_int q hc.ok
/-- // by a positive divisor -/
theorem op_fdiv : OpR X (binaryOp .FloorDiv) (rI CDiv fun i j => .int (i / j)) := opI fun i j _ _ _ _ _ hc q => by
  have h1 : (0 : Int) < j := hc.1
  have h2 : j < 1073741824 := hc.2
  exact floordiv_int (by omega) (by rw [Int.fdiv_eq_ediv_of_nonneg i (by omega)]; exact q) (.inl (PyProof.noPylong_small (by omega)))
/-- % by a positive divisor of any size -/
theorem op_mod : OpR X (binaryOp .Mod) (rI (fun _ j => 0 < j) fun i j => .int (i % j)) := opI fun i j _ _ _ _ _ hc q => by
  have h1 : (0 : Int) < j := hc
  exact mod_int' (by omega) (by rw [Int.fmod_eq_emod_of_nonneg i (by omega)]; exact q)
theorem op_pow : OpR X (binaryOp .Pow) (rI CPow fun i j => .int (i ^ j.toNat)) := opI fun _ _ _ _ _ _ _ hc q => pow_int_small hc.1 hc.2.1 hc.2.2 q
theorem unI {f : Value → Sem Value} {g : Int → Int}
    (rule : ∀ (i : Int) (t : Tok) (s : Shared) (Q : Value → Shared → Prop) (E : Value → Shared → Prop), Q (.int (g i) s.toks) { s with toks := s.toks + 1 } → wpAny (model X.prog X.w) X.A (f (.int i t)) Q E s) :
    UnR X f (rU fun i => .int (g i)) := by
  intro pins s σ H x v Q I rx h
  obtain ⟨i, rfl, q⟩ := h
  obtain ⟨t, rfl⟩ := rx
  exact rule i t s _ _ ⟨.int (g i), H, I.tok _, ⟨_, rfl⟩, q⟩
theorem un_neg : UnR X (unaryOp .USub) (rU fun i => .int (-i)) := unI fun _ _ _ _ _ q => neg_int q
/-! ### bools among ints: n += (a < b) -/
end

/-! ### comparisons -/
/-- the scalars that == tells apart as data does -/
def scal : V → V → Bool
  | .non, .non => true | .non, .int _ => true | .int _, .non => true | .non, .bl _ => true | .bl _, .non => true | .non, .str _ => true | .str _, .non => true
  | .int _, .int _ => true | .bl _, .bl _ => true | .str _, .str _ => true | .byt _, .byt _ => true
  | .int _, .str _ => true | .str _, .int _ => true | .bl _, .str _ => true | .str _, .bl _ => true
  | _, _ => false
def rEq : R2 := fun x y H Q => scal x y = true ∧ Q (.bl (decide (x = y))) H
def rNe : R2 := fun x y H Q => scal x y = true ∧ Q (.bl (!decide (x = y))) H

section
variable {X : Cx} {a b c : Expr} {ta tb tc : TE} {pos : Pos}
theorem op_lt : OpR X (compareOp .Lt) (rI0 fun i j => .bl (decide (i < j))) := opB0 fun _ _ _ _ _ _ _ q => lt_int q
theorem op_le : OpR X (compareOp .LtE) (rI0 fun i j => .bl (decide (i ≤ j))) := opB0 fun _ _ _ _ _ _ _ q => le_int q
theorem op_gt : OpR X (compareOp .Gt) (rI0 fun i j => .bl (decide (j < i))) := opB0 fun _ _ _ _ _ _ _ q => gt_int q
theorem op_ge : OpR X (compareOp .GtE) (rI0 fun i j => .bl (decide (j ≤ i))) := opB0 fun _ _ _ _ _ _ _ q => ge_int q
/-- is, is not of two objects that are tracked lists or instances -/
def isObj : HO → Bool
  | .lst _ => true
  | .ins _ _ _ => true
  | _ => false
/-- two rules for one operation: by cases -/
theorem OpR.or {f : Value → Value → Sem Value} {r r' : R2} (h : OpR X f r) (h' : OpR X f r') : OpR X f (fun x y H Q => r x y H Q ∨ r' x y H Q) := by
  intro pins s σ H x y v u Q I rx ry q
  rcases q with q | q
  · exact h pins s σ H x y v u Q I rx ry q
  · exact h' pins s σ H x y v u Q I rx ry q

theorem nomark (b : Expr) {op : CmpOp} (h : op ≠ .In := by decide) (h2 : op ≠ .NotIn := by decide) : behindInMarks op b = false := by
  have e1 : (op == CmpOp.In) = false := by cases op <;> first | rfl | exact absurd rfl h
  have e2 : (op == CmpOp.NotIn) = false := by cases op <;> first | rfl | exact absurd rfl h2
  cases b <;> simp [behindInMarks, e1, e2]
/-- a comparison as a value; hm: nomark b, or (for in, not in) by with_unfolding_all rfl -/
theorem pe_cmpR {op : CmpOp} {r : R2} (ho : OpR X (compareOp op) r) (ha : PE X a ta) (hb : PE X b tb) (hm : behindInMarks op b = false) : PE X (.Compare a [op] [b] pos) (tOp r ta tb) := by
  intro pins s σ H Q I h
  exact wpAny_Compare1 (binT ha hb I h fun v u s2 x y H2 I2 rx ry q => ho pins s2 σ H2 x y v u Q I2 rx ry q) hm
/-- a reading of a value as a test -/
def tTest (t : TE) : TT := fun σ H Q => t σ H fun x H' => ∃ k, x = .bl k ∧ Q k H'
theorem pt_cmpR {op : CmpOp} {r : R2} (ho : OpR X (compareOp op) r) (ha : PE X a ta) (hb : PE X b tb) (hm : behindInMarks op b = false) : PT X (.Compare a [op] [b] pos) (tTest (tOp r ta tb)) := by
  intro pins s σ H Q I h
  refine wpAny_isTrue_Compare1 (thn (ha pins s σ H _ I h) fun v s1 ⟨x, H1, I1, r1, q1⟩ => thn (hb pins s1 σ H1 _ I1 q1) fun u s2 ⟨y, H2, I2, r2, q2⟩ =>
    thn (ho pins s2 σ H2 x y v u _ I2 r1 r2 q2) fun c s3 ⟨z, H3, I3, r3, k, e, q3⟩ => ?_) hm
  subst e
  cases r3
  exact wpAny_truthy_bool ⟨H3, I3, q3⟩
/-- a op1 b op2 c -/
def tChain (r r' : R2) (ta tb tc : TE) : TE := fun σ H Q => ta σ H fun x H1 => tb σ H1 fun y H2 => r x y H2 fun z H3 => ∃ k, z = .bl k ∧
  (if k = true then tc σ H3 fun w' H4 => r' y w' H4 Q else Q (.bl false) H3)
theorem pe_chain {op op' : CmpOp} {r r' : R2} (ho : OpR X (compareOp op) r) (ho' : OpR X (compareOp op') r') (ha : PE X a ta) (hb : PE X b tb) (hc : PE X c tc)
    (hm : lastMarks [op, op'] [b, c] = false := by with_unfolding_all rfl) : PE X (.Compare a [op, op'] [b, c] pos) (tChain r r' ta tb tc) := by
  intro pins s σ H Q I h
  refine Compare_chain (thn (ha pins s σ H _ I h) fun v s1 ⟨x, H1, I1, r1, q1⟩ => chain_link (thn (hb pins s1 σ H1 _ I1 q1) fun u s2 ⟨y, H2, I2, r2, q2⟩ =>
    thn (ho pins s2 σ H2 x y v u _ I2 r1 r2 q2) fun d s3 ⟨z, H3, I3, r3, k, e, q3⟩ => ?_)) hm
  subst e
  cases r3
  refine wpAny_truthy_bool ?_
  cases k with
  | false => exact ite_ff ⟨.bl false, H3, I3, rfl, q3⟩
  | true => exact ite_tt (chain_last (thn (hc pins s3 σ H3 _ I3 q3) fun w' s4 ⟨z', H4, I4, r4, q4⟩ => ho' pins s4 σ H4 y z' u w' Q I4 r2 r4 q4))
/-! ### truth -/
/-- a value's truth by the abstract heap -/
def TruV (K : PySem.W.Frag) (x : V) (H : Hp) (k : Bool) : Prop :=
  match x with
  | .non => k = false
  | .bl b => k = b
  | .int i => k = (i != 0)
  | .str y => y.length ≤ sizeLine ∧ k = ((y.length : Int) != 0)
  | .byt y => y.size ≤ sizeLine ∧ k = ((y.size : Int) != 0)
  | .ref p => (∃ xs, SqL K H p xs ∧ k = !xs.isEmpty) ∨ (∃ xs, SqT K H p xs ∧ k = !xs.isEmpty) ∨ ∃ kvs, H p = some (.dK kvs) ∧ k = !kvs.isEmpty
  | _ => False
theorem isEmpty_kv {κ : Type} {kvs : List (κ × V)} {vs : List (κ × Value)} (r : KV kvs vs) : (!vs.isEmpty) = !kvs.isEmpty := by
  cases r <;> rfl
theorem isEmpty_of {xs : List V} {its : List Value} (r : Vals xs its) : (!its.toArray.isEmpty) = !xs.isEmpty := by
  cases r <;> simp
theorem line63 : (sizeLine : Nat) < 2 ^ 63 := by rw [sizeLine_eq]; decide
theorem tru_ok : TruR X (fun x H Q => ∃ k, TruV X.K x H k ∧ Q k H) := by
  intro pins s σ H x v Q I rx h
  obtain ⟨k, e, q⟩ := h
  have hl := line63
  have hs : sizeLine = 16777216 := sizeLine_eq
  cases x with
  | non =>
    cases rx
    have e' : k = false := e
    subst e'
    exact truthy_none ⟨H, I, q⟩
  | bl b =>
    cases rx
    have e' : k = b := e
    subst e'
    exact wpAny_truthy_bool ⟨H, I, q⟩
  | int i =>
    obtain ⟨t, rfl⟩ := rx
    have e' : k = (i != 0) := e
    subst e'
    exact PySem.P.truthy_int ⟨H, I, q⟩
  | str y =>
    obtain ⟨t, rfl⟩ := rx
    obtain ⟨hy, e'⟩ : y.length ≤ sizeLine ∧ k = ((y.length : Int) != 0) := e
    subst e'
    exact PySem.P.truthy_str (by omega) ⟨H, I.tok _, q⟩
  | byt y =>
    obtain ⟨t, rfl⟩ := rx
    obtain ⟨hy, e'⟩ : y.size ≤ sizeLine ∧ k = ((y.size : Int) != 0) := e
    subst e'
    exact PySem.W.truthy_bytes (by omega) ⟨H, I.tok _, q⟩
  | ref p =>
    cases rx
    have e' : (∃ xs, SqL X.K H p xs ∧ k = !xs.isEmpty) ∨ (∃ xs, SqT X.K H p xs ∧ k = !xs.isEmpty) ∨ ∃ kvs, H p = some (.dK kvs) ∧ k = !kvs.isEmpty := e
    rcases e' with ⟨xs, hx, e'⟩ | ⟨xs, hx, e'⟩ | ⟨kvs, hx, e'⟩
    · subst e'
      obtain ⟨its, r, pl, hz⟩ := I.list hx
      have hlen := r.length
      exact wpAny_truthy_list pl.isList (by simp only [List.size_toArray]; omega) ⟨H, I.tok _, by rw [isEmpty_of r]; exact q⟩
    · subst e'
      obtain ⟨its, r, pl, hz⟩ := I.tuple hx
      have hlen := r.length
      exact truthy_tuple pl (by simp only [List.size_toArray]; omega) ⟨H, I.tok _, by rw [isEmpty_of r]; exact q⟩
    · subst e'
      obtain ⟨hz, hS, vs, r, m⟩ : kvs.length ≤ sizeLine ∧ (p == sysModules) = false ∧ ∃ vs, KV kvs vs ∧ s.heap.DictOf (mixKind X.prog X.w) p vs := I.hok p _ hx
      have hlen : kvs.length = vs.length := Paired.length r
      exact wpAny_truthy_dict hS m (by omega) ⟨H, I.tok _, by rw [isEmpty_kv r]; exact q⟩
  | _ => exact (show False from e).elim
/-- any expression whose test is its value's truth (a name, a call, a subscript, a field ..: he by fun _ => rfl) -/
theorem pt_truth (ha : PE X a ta) (he : ∀ whole, isTrue a X.env whole = (do let v ← whole; standAt a.pos; holding [v] (truthy v))) :
    PT X a (fun σ H Q => ta σ H fun x H' => ∃ k, TruV X.K x H' k ∧ Q k H') := by
  intro pins s σ H Q I h
  exact isTrue_plain (thn (ha pins s σ H _ I h) fun v s1 ⟨x, H1, I1, r1, q1⟩ => tru_ok pins s1 σ H1 x v Q I1 r1 q1) (he _)

/-! ### strs and bytes -/
def PlainIxT (b : Expr) : Prop := ∀ o i, subscripted b false o i = operate [o, i] (getItem o i)
/-! ### scalar builtins, by CallR -/
theorem vals1 {x : V} {us : List Value} (r : Vals [x] us) : ∃ u, us = [u] ∧ RelV x u := by
  cases r with
  | cons r1 r2 => cases r2; exact ⟨_, rfl, r1⟩
theorem vals2 {x y : V} {us : List Value} (r : Vals [x, y] us) : ∃ u w', us = [u, w'] ∧ RelV x u ∧ RelV y w' := by
  cases r with
  | cons r1 r2 =>
    cases r2 with
    | cons r3 r4 => cases r4; exact ⟨_, _, rfl, r1, r3⟩
theorem call_abs : CallR X (.builtin "abs") (fun xs H Q => ∃ i, xs = [.int i] ∧ Q (.int (if i < 0 then -i else i)) H) := by
  intro pins s σ H xs us Q I r h
  obtain ⟨i, rfl, q⟩ := h
  obtain ⟨u, rfl, t, rfl⟩ := vals1 r
  exact call_abs_int fun u tk => ⟨.int (if i < 0 then -i else i), H, I.tok _, ⟨_, rfl⟩, q⟩
theorem call_max2 (hc : X.calm = true) : CallR X (.builtin "max") (fun xs H Q => ∃ i j, xs = [.int i, .int j] ∧ Q (.int (if j > i then j else i)) H) := by
  intro pins s σ H xs us Q I r h
  obtain ⟨i, j, rfl, q⟩ := h
  obtain ⟨u, w', rfl, ⟨t, rfl⟩, ⟨t', rfl⟩⟩ := vals2 r
  refine max_two_ints (I.ok.hd hc) fun h' tk k => ⟨_, H, I.kept k, ?_, q⟩
  by_cases hj : j > i
  · rw [if_pos hj, if_pos hj]; exact ⟨_, rfl⟩
  · rw [if_neg hj, if_neg hj]; exact ⟨_, rfl⟩
theorem call_min2 (hc : X.calm = true) : CallR X (.builtin "min") (fun xs H Q => ∃ i j, xs = [.int i, .int j] ∧ Q (.int (if j < i then j else i)) H) := by
  intro pins s σ H xs us Q I r h
  obtain ⟨i, j, rfl, q⟩ := h
  obtain ⟨u, w', rfl, ⟨t, rfl⟩, ⟨t', rfl⟩⟩ := vals2 r
  refine min_two_ints (I.ok.hd hc) fun h' tk k => ⟨_, H, I.kept k, ?_, q⟩
  by_cases hj : j < i
  · rw [if_pos hj, if_pos hj]; exact ⟨_, rfl⟩
  · rw [if_neg hj, if_neg hj]; exact ⟨_, rfl⟩
theorem call_int1 : CallR X (.type "int") (fun xs H Q => (∃ i, xs = [.int i] ∧ Q (.int i) H) ∨ ∃ k, xs = [.bl k] ∧ Q (.int (if k then 1 else 0)) H) := by
  intro pins s σ H xs us Q I r h
  rcases h with ⟨i, rfl, q⟩ | ⟨k, rfl, q⟩
  · obtain ⟨u, rfl, t, rfl⟩ := vals1 r
    exact call_int_int ⟨.int i, H, I, ⟨_, rfl⟩, q⟩
  · obtain ⟨u, rfl, r1⟩ := vals1 r
    cases r1
    exact call_int_bool ⟨.int (if k then 1 else 0), H, I.tok _, ⟨_, rfl⟩, q⟩
/-- len of a str, a bytes, a list, a tuple -/
def LenV (K : PySem.W.Frag) (x : V) (H : Hp) (n : Nat) : Prop :=
  match x with
  | .str y => y.length ≤ sizeLine ∧ n = y.length
  | .byt y => y.size ≤ sizeLine ∧ n = y.size
  | .ref p => (∃ xs, SqL K H p xs ∧ n = xs.length) ∨ ∃ xs, SqT K H p xs ∧ n = xs.length
  | _ => False
theorem call_len : CallR X (.builtin "len") (fun xs H Q => ∃ x n, xs = [x] ∧ LenV X.K x H n ∧ Q (.int n) H) := by
  intro pins s σ H xs us Q I r h
  obtain ⟨x, n, rfl, e, q⟩ := h
  obtain ⟨u, rfl, rx⟩ := vals1 r
  have hl := line63
  have hs : sizeLine = 16777216 := sizeLine_eq
  cases x with
  | str y =>
    obtain ⟨t, rfl⟩ := rx
    obtain ⟨hy, e'⟩ : y.length ≤ sizeLine ∧ n = y.length := e
    subst e'
    exact len_str (by omega) ⟨.int _, H, I.tok _, ⟨_, rfl⟩, q⟩
  | byt y =>
    obtain ⟨t, rfl⟩ := rx
    obtain ⟨hy, e'⟩ : y.size ≤ sizeLine ∧ n = y.size := e
    subst e'
    exact PySem.W.len_bytes (by omega) ⟨.int _, H, I.tok _, ⟨_, rfl⟩, q⟩
  | ref p =>
    cases rx
    have e' : (∃ xs, SqL X.K H p xs ∧ n = xs.length) ∨ ∃ xs, SqT X.K H p xs ∧ n = xs.length := e
    rcases e' with ⟨xs, hx, e'⟩ | ⟨xs, hx, e'⟩
    · subst e'
      obtain ⟨its, r', pl, hz⟩ := I.list hx
      have hlen := r'.length
      exact Calls.call_len_list pl.isList (by simp only [List.size_toArray]; omega) ⟨.int xs.length, H, I.tok _, ⟨_, by simp only [List.size_toArray]; rw [hlen]⟩, q⟩
    · subst e'
      obtain ⟨its, r', pl, hz⟩ := I.tuple hx
      have hlen := r'.length
      exact len_tuple pl (by simp only [List.size_toArray]; omega) ⟨.int xs.length, H, I.tok _, ⟨_, by simp only [List.size_toArray]; rw [hlen]⟩, q⟩
  | _ => exact (show False from e).elim
end
end L2

namespace L2
open PySem PySem.Spec PyProof.Rows

/-! ### an instance, its attributes a map -/
structure ObjM (h : Heap) (x dx C : Addr) (mA : Str → Option Value) : Prop where
  obj : h.get? x = some (PySem.W.instObj C dx)
  ns : h.Ns1 dx mA
  ne : dx ≠ x

section
variable {prog : Program} {w : World} {A : Around} {E : Value → Shared → Prop} {s : Shared} {K : PySem.W.Frag} {x dx C f : Addr} {mA : Str → Option Value} {name : Str} {v : Value}

end

/-! ### the attributes as a list of pairs -/
def putF (f : Str) (v : V) : List (Str × V) → List (Str × V)
  | [] => [(f, v)]
  | (g, x) :: r => if g = f then (g, v) :: r else (g, x) :: putF f v r
theorem RelO.some_of {v : V} {o : Option Value} (r : RelO (some v) o) : ∃ u, o = some u ∧ RelV v u := by
  cases o with
  | none => exact (show False from r).elim
  | some u => exact ⟨u, rfl, r⟩
section
variable {P : Program} {w : World} {H H' : Hp} {h h' : Heap} {a C dx : Addr} {fs fs' : List (Str × V)}
end

/-! ### what of the text a class must have -/
structure Cls (K : PySem.W.Frag) (C : Addr) : Prop where
  pg : PySem.W.plainGet K C Str.empty = true
  hd : PySem.W.hasDictIn K C = true
  po : PySem.W.plainOver K C = true
  sa : PySem.W.findIn K (.ref C) "__setattr__" = some (some (.builtin "object.__setattr__"))
/-- no class of it has the name -/
def NoAttr (K : PySem.W.Frag) (C : Addr) (f : Str) : Prop := PySem.W.findIn K (.ref C) f = some none
/-- a constant of the class -/
structure Con (K : PySem.W.Frag) (C : Addr) (f : Str) (v : V) (u : Value) : Prop where
  at_ : PySem.W.findIn K (.ref C) f = some (some u)
  rel : RelV v u
  get : PySem.W.specialIn K u "__get__" = some none
  cp : PySem.W.copiedNames.contains f = false
/-- a method: a plain def of the class or of one above it -/
structure Meth (K : PySem.W.Frag) (C : Addr) (m : Str) (f : Addr) : Prop where
  at_ : PySem.W.findIn K (.ref C) m = some (some (.ref f))
  fn : PySem.W.isFn K (.ref f) = true
  kp : PySem.W.keepIn K (.ref f) = true

section
variable {X : Cx} {pins : List (Addr × Obj)} {σ : St} {H : Hp} {s : Shared} {a C dx : Addr} {fs : List (Str × V)} {f : Str} {v : V} {A : Around} {E : Value → Shared → Prop}

end

/-! ### readings and rules -/
/-- e.f, an attribute of the instance -/
def tFld (K : PySem.W.Frag) (ta : TE) (f : Str) : TE := fun σ H Q => ta σ H fun x H1 => ∃ a C dx fs v, x = .ref a ∧ H1 a = some (.ins C dx fs) ∧ Cls K C ∧ NoAttr K C f ∧ fs.lookup f = some v ∧ Q v H1
/-- e.f, a constant of the class -/
def tCon (K : PySem.W.Frag) (ta : TE) (f : Str) : TE := fun σ H Q => ta σ H fun x H1 => ∃ a C dx fs v u, x = .ref a ∧ H1 a = some (.ins C dx fs) ∧ Cls K C ∧ Con K C f v u ∧ fs.lookup f = none ∧ Q v H1
/-- e.f = value -/
def sFld (K : PySem.W.Frag) (ta tv : TE) (f : Str) : TS := fun D σ H => tv σ H fun y H1 => ta σ H1 fun x H2 => ∃ a C dx fs, x = .ref a ∧ H2 a = some (.ins C dx fs) ∧ Cls K C ∧ NoAttr K C f ∧ fs.length < 1000 ∧
  D.nx σ (upd H2 a (.ins C dx (putF f y fs)))
/-- an augmented operator on two values -/
def InOp (X : Cx) (op : Operator) (rd : V → V → Hp → VK → Prop) : Prop :=
  ∀ (pins : List (Addr × Obj)) (s : Shared) (σ : St) (H : Hp) (x y : V) (u v : Value) (Q : VK), Inv X pins σ H s → RelV x u → RelV y v → rd x y H Q → wpAny (model X.prog X.w) X.A (inplaceOp op u v) (EP X pins σ Q) X.xe s
/-- e.f op= value -/
def sFldAug (K : PySem.W.Frag) (ta tv : TE) (rd : V → V → Hp → VK → Prop) (f : Str) : TS := fun D σ H => ta σ H fun x H1 => ∃ a C dx fs v, x = .ref a ∧ H1 a = some (.ins C dx fs) ∧ Cls K C ∧ NoAttr K C f ∧ fs.lookup f = some v ∧
  tv σ H1 fun y H2 => rd v y H2 fun z H3 => ∃ dx' fs', H3 a = some (.ins C dx' fs') ∧ fs'.length < 1000 ∧ D.nx σ (upd H3 a (.ins C dx' (putF f z fs')))

section
variable {X : Cx} {o e value : Expr} {f : Str} {pos pos' tpos : Pos} {ta tv : TE}
def rAdd : V → V → Hp → VK → Prop := fun x y H Q => ∃ i j, x = .int i ∧ y = .int j ∧ Q (.int (i + j)) H
def rSub : V → V → Hp → VK → Prop := fun x y H Q => ∃ i j, x = .int i ∧ y = .int j ∧ Q (.int (i - j)) H
end

/-! ### isinstance -/
section
variable {X : Cx} {pins : List (Addr × Obj)} {σ : St} {H : Hp} {s : Shared} {A : Around} {E : Value → Shared → Prop} {Q : Value → Shared → Prop} {c : Value} {b : Bool}
/-- the type of a value, as the fragment's deciders take it; for an instance its class -/
inductive TyOf (K : PySem.W.Frag) (H : Hp) : V → Value → Prop where
  | non : TyOf K H .non (.type "NoneType")
  | bl (x : Bool) : TyOf K H (.bl x) (.type "bool")
  | int (i : Int) : TyOf K H (.int i) (.type "int")
  | str (x : Str) : TyOf K H (.str x) (.type "str")
  | flt (x : UInt64) : TyOf K H (.flt x) (.type "float")
  | lst {a : Addr} {xs : List V} (e : H a = some (.lst xs)) : TyOf K H (.ref a) (.type "list")
  | frz {a : Addr} {o : Obj} {xs : List V} (e : H a = some (.frz o (.lst xs))) : TyOf K H (.ref a) (.type "list")
  | tup {a : Addr} {xs : List V} (e : H a = some (.tup xs)) : TyOf K H (.ref a) (.type "tuple")
  | dK {a : Addr} {kvs : List (Key × V)} (e : H a = some (.dK kvs)) : TyOf K H (.ref a) (.type "dict")
  | dT {a : Addr} {kvs : List (List Key × V)} (e : H a = some (.dT kvs)) : TyOf K H (.ref a) (.type "dict")
  | ins {a C dx : Addr} {fs : List (Str × V)} (e : H a = some (.ins C dx fs)) (cl : Cls K C) (ha : PySem.W.findIn K (.ref C) "__class__" = some (some (.builtin "object.__class__")))
      (hn : PySem.W.specialIn K (.builtin "object.__class__") "__get__" = some (some (.builtin "getset_descriptor.__get__"))) (htk : PySem.W.takesIn K (.builtin "object.__class__") = some true)
      (hm : PySem.W.mroIn K C (.type "object") = some true) : TyOf K H (.ref a) (.ref C)
end
end L2

namespace L2
open PySem PySem.Spec PyProof.Rows

/-! ### room -/
structure Room (k : Nat) (A : Around) : Prop where
  hd : A.handled = none
  dp : A.depth + 3 * k + 5 < recursionLimit
  un : A.units + 16 * k + 200 < cLine
theorem Room.mono {j k : Nat} {A : Around} (r : Room k A) (h : j ≤ k) : Room j A := ⟨r.hd, by have := r.dp; omega, by have := r.un; omega⟩
theorem Room.deeper {k : Nat} {A : Around} (r : Room (k + 1) A) (env : Env) : Room k (A.deeper env) :=
  ⟨r.hd, by have := r.dp; show A.depth + 1 + 3 * k + 5 < _; omega, by have := r.un; show A.units + 3 + 16 * k + 200 < _; omega⟩
theorem Room.depth {k : Nat} {A : Around} (r : Room k A) : A.depth < recursionLimit := by have := r.dp; omega
theorem Room.units {k : Nat} {A : Around} (r : Room k A) : A.units + 64 < cLine := by have := r.un; omega
/-! ### argument lists and displays -/
def tNil : TA := fun _ H Q => Q [] H
def tCons (ta : TE) (tr : TA) : TA := fun σ H Q => ta σ H fun x H1 => tr σ H1 fun xs H2 => Q (x :: xs) H2
section
variable {X : Cx} {e : Expr} {es : List Expr} {te : TE} {t : TA} {pos : Pos}
theorem pa_nil : PA X [] tNil := fun _ _ _ _ H Q I h => Calls.spliced_nil ⟨[], H, I, .nil, h⟩
theorem pa_cons (ha : PE X e te) (hr : PA X es t) (hs : starEach (e :: es) X.env = (false, eval e X.env) :: starEach es X.env := by rfl) : PA X (e :: es) (tCons te t) := by
  intro pos pins s σ H Q I h
  rw [hs]
  show wpAny _ _ (spliced ((false, eval e X.env) :: backTo pos (starEach es X.env))) _ _ s
  refine Calls.spliced_cons (thn (ha pins s σ H _ I h) fun u s1 ⟨x, H1, I1, r1, q1⟩ => ?_)
  exact thn (hr pos pins s1 σ H1 _ I1 q1) fun us s2 ⟨xs, H2, I2, r2, q2⟩ => ⟨x :: xs, H2, I2, .cons r1 r2, q2⟩

/-- a tuple, a list of written items -/
def tTup (t : TA) : TE := fun σ H Q => t σ H fun xs H1 => xs.length ≤ sizeLine ∧ ∀ p, H1 p = none → Q (.ref p) (upd H1 p (.tup xs))
def tLst (t : TA) : TE := fun σ H Q => t σ H fun xs H1 => xs.length ≤ sizeLine ∧ ∀ p, H1 p = none → Q (.ref p) (upd H1 p (.lst xs))
theorem pe_tup {x1} (h : PA X es t) : PE X (.Tuple es x1 pos) (tTup t) := by
  intro pins s σ H Q I hq
  refine wpAny_Tuple_spliced (thn (h pos pins s σ H _ I hq) fun us s1 ⟨xs, H1, I1, r, z, q⟩ => ⟨by rw [← r.length]; exact z, ?_⟩)
  have hf : H1 s1.heap.objs.size = none := I1.hok.fresh (Nat.le_refl _)
  refine ⟨.ref s1.heap.objs.size, upd H1 s1.heap.objs.size (.tup xs), I1.laid (t' := s1.toks) (fun b u e => Heap.get?_push_of_some _ e) (Nat.le_refl _) ?_, rfl, q _ hf⟩
  exact ⟨z, us, r, ⟨_, Heap.get?_push_size _ rfl, rfl, _, rfl⟩⟩
theorem pe_lst (h : PA X es t) : PE X (.List es pos) (tLst t) := by
  intro pins s σ H Q I hq
  refine wpAny_List_spliced (thn (h pos pins s σ H _ I hq) fun us s1 ⟨xs, H1, I1, r, z, q⟩ => ⟨by rw [← r.length]; exact z, ?_⟩)
  have hf : H1 s1.heap.objs.size = none := I1.hok.fresh (Nat.le_refl _)
  refine ⟨.ref s1.heap.objs.size, upd H1 s1.heap.objs.size (.lst xs), I1.laid (t' := s1.toks) (fun b u e => Heap.get?_push_of_some _ e) (Nat.le_refl _) ?_, rfl, q _ hf⟩
  exact ⟨z, us, 0, r, Heap.get?_push_size _ rfl⟩
end

/-! ### what a def promises -/
/-- a def's promise: the bound arguments in the parameters' order, the heap, the wanted end, the wanted exception -/
abbrev Sp := List V → Hp → VK → XK → Prop
/-- how an exception lies behind a call (file 08 gives it): the callers' frames, abstract heap and state ahead of the call, the wish, the exception, the state -/
abbrev CXT := List Env → Hp → Shared → XK → Value → Shared → Prop

/-- the state at a call -/
structure Env0 (P : Program) (w : World) (K : PySem.W.Frag) (mg : Str → Option Value) (base : Heap) (A : Around) (outer : List Env) (s : Shared) (H : Hp) : Prop where
  frames : A.frames = some outer
  mod : Mod K mg base
  bs : ∀ b o, base.get? b = some o → s.heap.get? b = some o ∧ H b = none
  bsz : base.objs.size ≤ s.heap.objs.size
  funs : s.heap.FunFrames base outer
  frf : ∀ b ∈ frs outer, H b = none
  hok : HOk P w H s.heap
  bare : AllBare s.gens
/-- a call's end -/
def CE (outer : List Env) (P : Program) (w : World) (H : Hp) (s : Shared) (Q : VK) (u : Value) (s' : Shared) : Prop :=
  ∃ v H', s'.os = s.os ∧ AllBare s'.gens ∧ Un (frs outer) [] H H' s.heap s'.heap ∧ HOk P w H' s'.heap ∧ RelV v u ∧ Q v H'
def CR (CX : CXT) (outer : List Env) (P : Program) (w : World) (H : Hp) (s : Shared) (Q : VK) (E : XK) (r : Result) (s' : Shared) : Prop :=
  match r with
  | .ok (.ret u) => CE outer P w H s Q u s'
  | .ok _ => False
  | .error e => CX outer H s E e s'
structure FnOk (P : Program) (w : World) (K : PySem.W.Frag) (mg : Str → Option Value) (base : Heap) (CX : CXT) (k : Nat) (f : Addr) (fd : FuncData) (ps : List Str) (sp : Sp) : Prop where
  len : ∀ vs H Q E, sp vs H Q E → vs.length = ps.length
  run : ∀ (A : Around) (outer : List Env) (s : Shared) (H : Hp) (args : Args) (us : List Value) (vs : List V) (Q : VK) (E : XK), Room k A → Env0 P w K mg base A outer s H → BindsTo s fd args (ps.zip us) → Vals vs us → sp vs H Q E →
    codeAny (model P w) A (.call (.ref f) args) (CR CX outer P w H s Q E) s
section
variable {X : Cx} {pins : List (Addr × Obj)} {σ : St} {H : Hp} {s s' : Shared}
/-- from a body: what a callee wants -/
theorem Inv.env0 (I : Inv X pins σ H s) : Env0 X.prog X.w X.K X.mg X.base X.A X.stack s H :=
  ⟨I.ok.frames, I.ok.mod, I.bs, Nat.le_trans I.ok.bsz I.sz, I.stack, I.stkFree, I.hok, I.bare⟩
/-- behind a call -/
theorem Inv.after {Q : VK} {u : Value} (I : Inv X pins σ H s) (h : CE X.stack X.prog X.w H s Q u s') : EP X pins σ Q u s' := by
  obtain ⟨v, H', os, bare, un, hok, r, q⟩ := h
  obtain ⟨hh, g, d, t, os'⟩ := s'
  obtain rfl : os' = s.os := os
  exact ⟨v, H', I.call (h' := hh) (g' := g) (d' := d) (t' := t) (ch := []) un hok bare (fun b z => absurd z (by simp)), r, q⟩
end

/-! ### calls -/
/-- f(..): the written arguments, then the defaults dvs; E: what is wanted of an exception -/
def tCall (sp : Sp) (dvs : List V) (E : XK) (t : TA) : TE := fun σ H Q => t σ H fun vs H1 => sp (vs ++ dvs) H1 Q E
/-- o.m(..) of an instance of the class at C -/
def tMeth (C : Addr) (m : Str) (sp : Sp) (dvs : List V) (E : XK) (ta : TE) (t : TA) : TE := fun σ H Q => ta σ H fun x H1 => ∃ a dx fs, x = .ref a ∧ H1 a = some (.ins C dx fs) ∧ fs.lookup m = none ∧
  t σ H1 fun vs H2 => sp (x :: (vs ++ dvs)) H2 Q E
/-- C(..): a new instance and its dict, then __init__ -/
def tMake (C : Addr) (sp : Sp) (dvs : List V) (E : XK) (t : TA) : TE := fun σ H Q => t σ H fun vs H1 => ∀ x dx, H1 x = none → H1 dx = none → dx ≠ x →
  sp (.ref x :: (vs ++ dvs)) (upd (upd H1 dx (.own x)) x (.ins C dx [])) (fun v H2 => v = .non ∧ Q (.ref x) H2) E

/-- how the parameters are bound: us the positional arguments, kw the keywords' values by name, ds the defaults that fill up -/
def Binds (K : PySem.W.Frag) (fd : FuncData) (ps : List Str) (ds : List Value) : Prop :=
  ∀ (s : Shared) (us : List Value), K.In s.heap → (us ++ ds).length = ps.length → BindsTo s fd ⟨us, []⟩ (ps.zip (us ++ ds))
/-- every parameter is given -/
theorem Binds.all {K : PySem.W.Frag} {fd : FuncData} {ps : List Str} (h : ∀ us : List Value, us.length = ps.length → bindArgs fd ⟨us, []⟩ = pure (ps.zip us)) : Binds K fd ps [] := fun s us _ hl => by
  rw [List.append_nil] at hl ⊢
  exact .of_eq (h us hl)

/-- an exception of a callee reaches what this body wants of exceptions -/
def Passes (CX : CXT) (X : Cx) (E : XK) : Prop := ∀ (pins : List (Addr × Obj)) (σ : St) (H : Hp) (s : Shared) (e : Value) (s' : Shared), Inv X pins σ H s → CX X.stack H s E e s' → X.xe e s'

section
variable {X : Cx} {CX : CXT} {k : Nat} {f C : Addr} {fd : FuncData} {ps : List Str} {sp : Sp} {dvs : List V} {ds : List Value} {E : XK} {x m : Str} {p pos apos : Pos} {e o : Expr} {es : List Expr} {ta : TE} {t : TA}

/-- the callee runs -/
theorem run_fn {pins : List (Addr × Obj)} {σ : St} {H : Hp} {s : Shared} {Q : VK} {us : List Value} {vs : List V} (F : FnOk X.prog X.w X.K X.mg X.base CX k f fd ps sp) (hr : Room k X.A) (hb : Binds X.K fd ps ds) (hd : Vals dvs ds) (hx : Passes CX X E)
    (I : Inv X pins σ H s) (r : Vals vs us) (h : sp (vs ++ dvs) H Q E) : wpAny (model X.prog X.w) X.A (call (.ref f) us) (EP X pins σ Q) X.xe s := by
  have r2 : Vals (vs ++ dvs) (us ++ ds) := r.append hd
  have hl : (us ++ ds).length = ps.length := by rw [← r2.length]; exact F.len _ _ _ _ h
  refine wpAny_call (codeAny_mono (F.run X.A X.stack s H ⟨us, []⟩ (us ++ ds) (vs ++ dvs) Q E hr I.env0 (hb s us I.kIn hl) r2 h) fun r s' hq => ?_)
  cases r with
  | error e => exact hx pins σ H s e s' I hq
  | ok fl =>
    cases fl with
    | ret u => exact I.after hq
    | next => exact False.elim hq
    | brk => exact False.elim hq
    | cont => exact False.elim hq

theorem pe_call (F : FnOk X.prog X.w X.K X.mg X.base CX k f fd ps sp) (hr : Room k X.A) (hg : Gl X x) (hm : X.mg x = some (.ref f)) (hk : PySem.W.keepIn X.K (.ref f) = true) (hb : Binds X.K fd ps ds) (hd : Vals dvs ds) (hx : Passes CX X E)
    (ha : PA X (e :: es) t) (hdb : (x == ("__debug__" : Str)) = false := by decide) (he : starEach (e :: es) X.env = (false, eval e X.env) :: starEach es X.env := by rfl) (hpl : (backTo pos (starEach es X.env)).any (·.1) = false := by rfl) :
    PE X (.Call (.Name x p) (e :: es) [] pos) (tCall sp dvs E t) := by
  intro pins s σ H Q I h
  refine wpAny_Call_Name_kw (ld_glob I hg hm ?_ hdb)
  refine PySem.W.callWith_K (h₀ := X.base) I.ok.mod.kin hk (thn (ha pos pins s σ H _ I h) fun us s1 ⟨vs, H1, I1, r, q⟩ => ⟨I1.kIn, ?_⟩) he hpl
  exact run_fn F hr hb hd hx I1 r q
/-- what a class must have to be made -/
structure Mk (K : PySem.W.Frag) (C f : Addr) : Prop where
  makes : PySem.W.makesIn K C = true
  init : PySem.W.findIn K (.ref C) "__init__" = some (some (.ref f))
  fn : PySem.W.isFn K (.ref f) = true
  kp : PySem.W.keepIn K (.ref C) = true

end

/-! ### keywords -/
/-- the values of the keywords, from the left -/
def PK (X : Cx) (kws : List Keyword) (t : TA) : Prop :=
  ∀ (pos : Pos) (pins : List (Addr × Obj)) (s : Shared) (σ : St) (H : Hp) (Q : List V → Hp → Prop), Inv X pins σ H s → t σ H Q → wpAny (model X.prog X.w) X.A (evalAll ((backToKw pos (keywordEach kws X.env)).map (·.2))) (AP X pins σ Q) X.xe s
section
variable {X : Cx} {CX : CXT} {k : Nat} {f C : Addr} {fd : FuncData} {ps ks : List Str} {sp : Sp} {E : XK} {x m : Str} {p pos apos kpos : Pos} {e o : Expr} {es : List Expr} {kws : List Keyword} {te ta : TE} {t tk : TA} {nm : Option Str}
/-- how a call with keywords binds: g puts the positional values us and the keywords' values ws (names ks) in the parameters' order, defaults among them -/
structure KBinds (K : PySem.W.Frag) (fd : FuncData) (ps ks : List Str) (g : List Value → List Value → List Value) (gV : List V → List V → List V) : Prop where
  to : ∀ (s : Shared) (us ws : List Value), K.In s.heap → (g us ws).length = ps.length → BindsTo s fd ⟨us, ks.zip ws⟩ (ps.zip (g us ws))
  rel : ∀ {vs : List V} {us : List Value} {zs : List V} {ws : List Value}, Vals vs us → Vals zs ws → Vals (gV vs zs) (g us ws)
def tCallK (sp : Sp) (gV : List V → List V → List V) (E : XK) (t tk : TA) : TE := fun σ H Q => t σ H fun vs H1 => tk σ H1 fun zs H2 => sp (gV vs zs) H2 Q E
variable {g : List Value → List Value → List Value} {gV : List V → List V → List V}
end

/-! ### a def's body keeps its promise -/
/-- names: the parameters first -/
structure FnScope (N P : List Str) (sc : Scope) : Prop where
  kind : sc.kind = .function
  co : sc.isCoroutine = false
  gen : sc.isGenerator = false
  nd : N.Nodup
  pre : N.take P.length = P
  par : ∀ x ∈ P, sc.names.lookup x = some .local ∨ sc.names.lookup x = some .cell
  nofree : ∀ y ∈ sc.names, y.2 ≠ .free

theorem bindL_out {kindOf : Str → Option NameKind} {x : Str} : ∀ {binds : List (Str × Value)} {m : Str → Option Value}, (∀ v, (x, v) ∉ binds) → bindL kindOf binds m x = m x
  | [], _, _ => rfl
  | (n, v) :: r, m, h => by
    unfold bindL
    rw [bindL_out fun w hw => h w (List.mem_cons_of_mem _ hw)]
    split
    · have : x ≠ n := by rintro rfl; exact h v List.mem_cons_self
      simp [this]
    · rfl
theorem bindC_out {kindOf : Str → Option NameKind} {x : Str} : ∀ {binds : List (Str × Value)} {m : Str → Option Value}, (∀ v, (x, v) ∉ binds) → bindC kindOf binds m x = m x
  | [], _, _ => rfl
  | (n, v) :: r, m, h => by
    unfold bindC
    rw [bindC_out fun w hw => h w (List.mem_cons_of_mem _ hw)]
    split
    · rfl
    · have : x ≠ n := by rintro rfl; exact h v List.mem_cons_self
      simp [this]
theorem bindL_get {kindOf : Str → Option NameKind} {x : Str} {v : Value} : ∀ {P : List Str} {vs : List Value} {i : Nat} {m : Str → Option Value}, P.Nodup → P[i]? = some x → vs[i]? = some v → kindOf x = some .local →
    bindL kindOf (P.zip vs) m x = some v
  | [], _, _, _, _, h, _, _ => by simp at h
  | _ :: _, [], _, _, _, _, h, _ => by simp at h
  | p :: P, w :: vs, 0, m, nd, h1, h2, hk => by
    simp at h1 h2; subst h1; subst h2
    show bindL kindOf ((p, w) :: P.zip vs) m p = _
    unfold bindL
    rw [bindL_out fun v hv => (List.nodup_cons.mp nd).1 (List.of_mem_zip hv).1, if_pos hk]
    simp
  | p :: P, w :: vs, i + 1, m, nd, h1, h2, hk => by
    show bindL kindOf ((p, w) :: P.zip vs) m x = _
    unfold bindL
    exact bindL_get (i := i) (List.nodup_cons.mp nd).2 (by simpa using h1) (by simpa using h2) hk
theorem bindC_get {kindOf : Str → Option NameKind} {x : Str} {v : Value} : ∀ {P : List Str} {vs : List Value} {i : Nat} {m : Str → Option Value}, P.Nodup → P[i]? = some x → vs[i]? = some v → kindOf x ≠ some .local →
    bindC kindOf (P.zip vs) m x = some v
  | [], _, _, _, _, h, _, _ => by simp at h
  | _ :: _, [], _, _, _, _, h, _ => by simp at h
  | p :: P, w :: vs, 0, m, nd, h1, h2, hk => by
    simp at h1 h2; subst h1; subst h2
    show bindC kindOf ((p, w) :: P.zip vs) m p = _
    unfold bindC
    rw [bindC_out fun v hv => (List.nodup_cons.mp nd).1 (List.of_mem_zip hv).1, if_neg hk]
    simp
  | p :: P, w :: vs, i + 1, m, nd, h1, h2, hk => by
    show bindC kindOf ((p, w) :: P.zip vs) m x = _
    unfold bindC
    exact bindC_get (i := i) (List.nodup_cons.mp nd).2 (by simpa using h1) (by simpa using h2) hk

/-- the names' values at the entry -/
def start (N : List Str) (vs : List V) : St := vs.map some ++ List.replicate (N.length - vs.length) none

/-- the context of a def's body, at its entry; an exception leaves the frame, then lies as CX says -/
def cxOf (CX : CXT) (P : Program) (w : World) (K : PySem.W.Frag) (mg : Str → Option Value) (base : Heap) (N : List Str) (qual : Str) (scope : Scope) (f : Addr) (cd : Value) (A : Around) (outer : List Env) (s : Shared) (H : Hp) (E : XK) : Cx where
  prog := P
  w := w
  K := K
  mg := mg
  base := base
  A := A.deeper (envOfC qual scope s.heap.objs.size f cd)
  N := N
  s₀ := s
  H₀ := H
  env := envOfC qual scope s.heap.objs.size f cd
  outer := outer
  stack := envOfC qual scope s.heap.objs.size f cd :: outer
  ex := []
  calm := true
  fn := fun _ => true
  pn := []
  xe := fun e s' => wpAny (model P w) (A.deeper (envOfC qual scope s.heap.objs.size f cd)) (leaving (envOfC qual scope s.heap.objs.size f cd) e) (fun _ s'' => CX outer H s E e s'') (fun e' s'' => CX outer H s E e' s'') s'

theorem cell_has {sc : Scope} {n : Nat} {x : Str} (h : sc.names.lookup x = some .cell) : ∃ c, (cellsFrom n sc.names []).lookup x = some c := by
  have q := PySem.W.cellsFrom_some sc.names n [] (.inl h)
  exact Option.isSome_iff_exists.mp q

theorem inv_start {CX : CXT} {P : Program} {w : World} {K : PySem.W.Frag} {mg : Str → Option Value} {base : Heap} {N ps : List Str} {qual : Str} {scope : Scope} {f : Addr} {cd : Value} {A : Around} {outer : List Env} {s s1 : Shared} {H : Hp} {E : XK} {us : List Value} {vs : List V}
    (S : FnScope N ps scope) (hd : A.handled = none) (e0 : Env0 P w K mg base A outer s H) (hl : vs.length = ps.length) (r : Vals vs us)
    (x : InCallC s s.heap.objs.size (bindL (envOfC qual scope s.heap.objs.size f cd).kindOf (ps.zip us) fun _ => none) (cellsFrom (s.heap.objs.size + 1) scope.names []) (bindC (envOfC qual scope s.heap.objs.size f cd).kindOf (ps.zip us) fun _ => none) s1) :
    Inv (cxOf CX P w K mg base N qual scope f cd A outer s H E) [] (start N vs) H s1 := by
  have hpl : ps.length ≤ N.length := by have := congrArg List.length S.pre; rw [List.length_take] at this; omega
  obtain ⟨h1, tk, rfl, hk⟩ := x.done
  have noA : ∀ b : Addr, b ∉ (cxOf CX P w K mg base N qual scope f cd A outer s H E).ex := fun b z => absurd (show b ∈ ([] : List Addr) from z) (by simp)
  refine ⟨⟨e0.mod, S.kind, rfl, rfl, Nat.le_refl _, fun y z c h1 h2 => ?_, fun y hy => ?_, fun y c _ h => ?_, fun _ => hd, Around.frames_deeper e0.frames, .inr ⟨rfl, rfl⟩, fun b z => absurd z (noA b), e0.bs, e0.bsz, fun b _ _ => noA b, fun b z => absurd z (noA b), e0.funs, e0.frf⟩,
    rfl, e0.bare, Un.kept hk, ⟨_, x.toInCall.ns, fun i y v h1 h2 h3 => ?_⟩, fun y c h => ⟨_, x.cell y c h⟩, e0.hok.fresh (Nat.le_refl _), fun y c h => ?_, fun p hp => absurd (show p ∈ ([] : List (Addr × Obj)) from hp) (by simp), e0.hok.kept hk, ?_⟩
  · exact name_of_addr x.apart (PySem.mem_of_lookup h1) (PySem.mem_of_lookup h2)
  · have hy : scope.names.lookup y = some .cell ∨ scope.names.lookup y = some .free := hy
    rcases hy with hy | hy
    · exact cell_has hy
    · exact absurd rfl (S.nofree _ (PySem.mem_of_lookup hy))
  · exact Nat.le_of_lt (x.above y c (PySem.mem_of_lookup h))
  · have hi : i < vs.length := by
      unfold start at h2
      by_cases hi : i < vs.length
      · exact hi
      · rw [List.getElem?_append_right (by simpa using hi)] at h2
        rw [List.getElem?_replicate] at h2
        split at h2 <;> cases h2
    have ha : vs[i]? = some v := by
      unfold start at h2
      rw [List.getElem?_append_left (by simpa using hi), List.getElem?_map] at h2
      cases e : vs[i]? with
      | none => rw [e] at h2; cases h2
      | some a => rw [e] at h2; cases h2; rfl
    obtain ⟨u, hu, rv⟩ := r.get ha
    have hp : ps[i]? = some y := by
      rw [← S.pre, List.getElem?_take_of_lt (by omega)]; exact h1
    have ndP : ps.Nodup := by rw [← S.pre]; exact S.nd.sublist (List.take_sublist _ _)
    refine ⟨u, rv, ?_⟩
    rcases S.par y (List.mem_of_getElem? hp) with k | k
    · exact .inl ⟨k, bindL_get ndP hp hu k⟩
    · obtain ⟨c, e⟩ := cell_has (n := s.heap.objs.size + 1) k
      refine .inr ⟨.inl k, c, e, ?_⟩
      have q := x.cell y c e
      rw [bindC_get ndP hp hu (by show scope.names.lookup y ≠ _; rw [k]; decide)] at q
      exact q
  · exact e0.hok.fresh (Nat.le_of_lt (x.above y c (PySem.mem_of_lookup h)))
  · unfold start
    show _ = N.length
    rw [List.length_append, List.length_map, List.length_replicate]
    omega

/-- THE RULE: a def (or a method) of the text, by its body. The body's reading t is chosen for each entry; it is run at the parameters' values -/
theorem fn_of {CX : CXT} {P : Program} {w : World} {K : PySem.W.Frag} {mg : Str → Option Value} {base : Heap} {k : Nat} {f : Addr} {name qual : Str} {params : Arguments} {body : List Stmt} {scope : Scope} {dV kV doc pm cdv ct oc : Value} {an od : Option Addr}
    {osl : Array (Option Value)} {N ps : List Str} {sp : Sp} (lk : K.lookup f = some ⟨oc, od, .func (PySem.W.fnOf name qual params body scope dV kV doc pm an cdv ct), osl⟩) (hcd : PySem.W.codeIn K cdv qual = true) (S : FnScope N ps scope)
    (len : ∀ vs H Q E, sp vs H Q E → vs.length = ps.length)
    (hbody : ∀ (A : Around) (outer : List Env) (s : Shared) (H : Hp) (vs : List V) (Q : VK) (E : XK), Room k (A.deeper (envOfC qual scope s.heap.objs.size f cdv)) → sp vs H Q E →
      ∃ t, PSs (cxOf CX P w K mg base N qual scope f cdv A outer s H E) body t ∧ t { nx := fun _ H' => Q .non H', rt := Q } (start N vs) H) :
    FnOk P w K mg base CX (k + 1) f (PySem.W.fnOf name qual params body scope dV kV doc pm an cdv ct) ps sp := by
  refine ⟨len, fun A outer s H args us vs Q E hr e0 hb r hsp => ?_⟩
  have hl := len _ _ _ _ hsp
  have KX : K.In s.heap := e0.mod.kin.keeps fun b o e => (e0.bs b o e).1
  have lim : s.heap.NoLimit := e0.mod.nolimit.keeps fun b o e => (e0.bs b o e).1
  have hkind : ∀ y ∈ ps.zip us, scope.names.lookup y.1 = some .local ∨ (scope.names.lookup y.1 = some .cell ∧ ((cellsFrom (s.heap.objs.size + 1) scope.names []).lookup y.1).isSome = true) := fun ⟨n, v⟩ hy => by
    rcases S.par n (List.of_mem_zip hy).1 with q | q
    · exact .inl q
    · exact .inr ⟨q, PySem.W.cellsFrom_some _ _ _ (.inl q)⟩
  refine codeAny_call_function hr.depth (KX _ _ lk) rfl S.co S.gen rfl (PySem.W.codeRec_of KX hcd) (hb _ _ _ _ ?_)
  refine wpAny_newFunctionEnv_cells S.kind hkind fun env he s1 x => ?_
  subst he
  refine ⟨lim.keeps x.toInCall.keep, codeAny_func ?_⟩
  obtain ⟨t, ht, hq⟩ := hbody A outer s H vs Q E (hr.deeper _) hsp
  have I : Inv (cxOf CX P w K mg base N qual scope f cdv A outer s H E) [] (start N vs) H s1 := inv_start S hr.hd e0 hl r x
  refine wpAny_mono (ht [] s1 (start N vs) H _ I hq) (fun fl s' hs => ?_) fun e s' hs => hs
  have fin : ∀ {σ' : St} {H' : Hp} {v : V} {u : Value}, Inv (cxOf CX P w K mg base N qual scope f cdv A outer s H E) [] σ' H' s' → RelV v u → Q v H' → CE outer P w H s Q u s' :=
    fun {σ' H' v u} J rv q => ⟨v, H', J.os, J.bare, J.base, J.hok, rv, q⟩
  cases fl with
  | ret u =>
    obtain ⟨v, σ', H', J, rv, q⟩ := hs
    exact fin J rv q
  | next =>
    obtain ⟨σ', H', J, q⟩ := hs
    exact fin (v := V.non) (u := Value.none) J rfl q
  | brk =>
    obtain ⟨_, _, _, q⟩ := hs
    exact False.elim q
  | cont =>
    obtain ⟨_, _, _, q⟩ := hs
    exact False.elim q
end L2

namespace L2
open PySem PySem.Spec PyProof.Rows
section
variable {X : Cx} {x : Str} {p pos : Pos} {e : Expr} {es : List Expr} {t : TA} {id T : String} {r : List V → Hp → VK → Prop}

def tCB (r : List V → Hp → VK → Prop) (t : TA) : TE := fun σ H Q => t σ H fun vs H1 => r vs H1 Q
/-- f(e, ..), f a built-in function -/
theorem pe_callB (hc : CallR X (.builtin id) r) (hg : Gl X x) (hm : X.mg x = none) (hv : bootBuiltins x = some (.builtin id)) (ha : PA X (e :: es) t) (hn : x ≠ "__name__" := by decide) (hdb : (x == ("__debug__" : Str)) = false := by decide)
    (he : starEach (e :: es) X.env = (false, eval e X.env) :: starEach es X.env := by rfl) (hpl : (backTo pos (starEach es X.env)).any (·.1) = false := by rfl) : PE X (.Call (.Name x p) (e :: es) [] pos) (tCB r t) := by
  intro pins s σ H Q I h
  refine wpAny_Call_Name_kw (ld_blt I hg hm hv ?_ hn hdb)
  exact PyProof.Rows.callWith_builtin1 (thn (ha pos pins s σ H _ I h) fun us s1 ⟨vs, H1, I1, r1, q1⟩ => hc pins s1 σ H1 vs us Q I1 r1 q1) he hpl
/-- T(e, ..), T a built-in type -/
theorem pe_callTy (hc : CallR X (.type T) r) (hg : Gl X x) (hm : X.mg x = none) (hv : bootBuiltins x = some (.type T)) (ha : PA X (e :: es) t) (hn : x ≠ "__name__" := by decide) (hdb : (x == ("__debug__" : Str)) = false := by decide)
    (he : starEach (e :: es) X.env = (false, eval e X.env) :: starEach es X.env := by rfl) (hpl : (backTo pos (starEach es X.env)).any (·.1) = false := by rfl) : PE X (.Call (.Name x p) (e :: es) [] pos) (tCB r t) := by
  intro pins s σ H Q I h
  refine wpAny_Call_Name_kw (ld_blt I hg hm hv ?_ hn hdb)
  exact PyProof.Rows.callWith_type1 (thn (ha pos pins s σ H _ I h) fun us s1 ⟨vs, H1, I1, r1, q1⟩ => hc pins s1 σ H1 vs us Q I1 r1 q1) he hpl
end
end L2

namespace HT
open PySem PyProof.Rows

/-- t < u of tuples of ints -/
def lexLt : List Int → List Int → Bool
  | [], [] => false
  | [], _ :: _ => true
  | _ :: _, [] => false
  | x :: xs, y :: ys => if x = y then lexLt xs ys else decide (x < y)
section
open PySem.SeqAt
open PySem.AutoSeq1 (wpAny_loadPart')
open PySem.MeetsSeq PySem.MeetsSeq2 PySem.MeetsSeq3

end

section
variable {prog : Program} {w : World} {A : Around} {E : Value → Shared → Prop} {s : Shared}

/-! ### t[a:b], not the whole -/
/-- a slice's bound as a place among n (d where it is left out) -/
def sIx (n d : Nat) : Option Int → Nat
  | none => d
  | some v => if v < 0 then (v + (n : Int)).toNat else min v.toNat n
theorem sIx_none (n d : Nat) : sIx n d none = d := rfl
theorem sIx_nat (n d k : Nat) : sIx n d (some (k : Int)) = min k n := by
  show (if (k : Int) < 0 then ((k : Int) + (n : Int)).toNat else min (k : Int).toNat n) = min k n
  rw [if_neg (by omega), Int.toNat_natCast]
end
end HT

namespace L2
open PySem PySem.Spec PyProof.Rows

/-! ### the parts of a slice -/
abbrev TO := St → Hp → (Option Int → Hp → Prop) → Prop
/-- a slice's part (left out, or an int) -/
def PO (X : Cx) (e : Option Expr) (t : TO) : Prop :=
  ∀ (pins : List (Addr × Obj)) (s : Shared) (σ : St) (H : Hp) (Q : Option Int → Hp → Prop), Inv X pins σ H s → t σ H Q →
    wpAny (model X.prog X.w) X.A (evalPart e X.env) (fun u s' => ∃ o H', Inv X pins σ H' s' ∧ IsPart u o ∧ Q o H') X.xe s
def tNoPart : TO := fun _ H Q => Q none H
def tPart (t : TE) : TO := fun σ H Q => t σ H fun x H1 => ∃ i, x = .int i ∧ Q (some i) H1

theorem intsAre_of {ns : List Int} : ∀ {us : List Value}, Vals (ns.map V.int) us → IntsAre us ns := by
  induction ns with
  | nil => intro us r; rw [List.map_nil] at r; cases r; exact .nil
  | cons n ns ih =>
    intro us r
    rw [List.map_cons] at r
    cases r with
    | cons r1 r2 =>
      obtain ⟨t, e⟩ := r1
      subst e
      exact .cons n t (ih r2)

section
variable {X : Cx} {e : Expr} {te : TE} {lo hi : Option Expr} {tl th : TO} {pos p2 : Pos}

theorem po_none : PO X none tNoPart := by
  intro pins s σ H Q I h
  rw [evalPart_none]
  exact wpAny_pure ⟨none, H, I, .none, h⟩
theorem po_some (h : PE X e te) : PO X (some e) (tPart te) := by
  intro pins s σ H Q I hw
  rw [evalPart_some]
  refine thn (h pins s σ H _ I hw) fun u s1 ⟨x, H1, I1, r1, q1⟩ => ?_
  obtain ⟨i, rfl, q⟩ := q1
  obtain ⟨t, rfl⟩ := r1
  exact ⟨some i, H1, I1, .int i t, q⟩

/-- what a slice of a value is, by values: the slice object stands at sl -/
def SlR (X : Cx) (r : V → Option Int → Option Int → Hp → VK → Prop) : Prop :=
  ∀ (pins : List (Addr × Obj)) (s : Shared) (σ : St) (H : Hp) (x : V) (v vl vu : Value) (lo hi : Option Int) (sl : Addr) (Q : VK), Inv X pins σ H s → RelV x v → s.heap.IsSliceOf sl vl vu .none → IsPart vl lo → IsPart vu hi → r x lo hi H Q →
    ∃ T id, typeLookup (.type T) "__getitem__" = pure (some (.builtin id)) ∧ s.TypeIs v T ∧ wpAny (model X.prog X.w) X.A (getItem v (.ref sl)) (EP X pins σ Q) X.xe s
def tSl (r : V → Option Int → Option Int → Hp → VK → Prop) (te : TE) (tl th : TO) : TE := fun σ H Q => te σ H fun x H1 => tl σ H1 fun l H2 => th σ H2 fun u H3 => r x l u H3 Q
/-- a[lo:hi], any a -/
theorem pe_slice {r : V → Option Int → Option Int → Hp → VK → Prop} (hr : SlR X r) (he : PE X e te) (hl : PO X lo tl) (hu : PO X hi th) : PE X (.Subscript e (.Slice lo hi none p2) pos) (tSl r te tl th) := by
  intro pins s σ H Q I h
  refine Subscript_ (thn (he pins s σ H _ I h) fun v s1 ⟨x, H1, I1, r1, q1⟩ => ?_)
  refine wpAny_Slice (thn (hl pins s1 σ H1 _ I1 q1) fun vl s2 ⟨l, H2, I2, pl, q2⟩ => thn (hu pins s2 σ H2 _ I2 q2) fun vu s3 ⟨u, H3, I3, pu, q3⟩ => ?_)
  rw [evalPart_none]
  refine wpAny_pure ?_
  have I4 : Inv X pins σ H3 { s3 with heap := s3.heap.push { cls := .type "slice", data := .fields #[vl, vu, .none] } } := I3.kept (t' := s3.toks) fun b ob q => Heap.get?_push_of_some _ q
  obtain ⟨T, id, hT, ht, hg⟩ := hr pins { s3 with heap := s3.heap.push { cls := .type "slice", data := .fields #[vl, vu, .none] } } σ H3 x v vl vu l u s3.heap.objs.size Q I4 r1 (Heap.IsSliceOf.new ..) pl pu q3
  show wpAny (model X.prog X.w) X.A (subscriptTail e (.Slice lo hi none p2) v (.ref s3.heap.objs.size)) (EP X pins σ Q) X.xe { s3 with heap := s3.heap.push { cls := .type "slice", data := .fields #[vl, vu, .none] } }
  exact tail_any (ops := [.ref s3.heap.objs.size, v]) ht hT hg (by with_unfolding_all rfl)

/-- the items of xs[lo:hi] -/
def cutV (xs : List V) (lo hi : Option Int) : List V := (xs.drop (HT.sIx xs.length 0 lo)).take (HT.sIx xs.length xs.length hi - HT.sIx xs.length 0 lo)
theorem cutV_length (xs : List V) (lo hi : Option Int) : (cutV xs lo hi).length ≤ xs.length := by
  unfold cutV
  rw [List.length_take, List.length_drop]
  omega
/-- t[lo:hi], not the whole of it (the whole would be t itself) -/
def rSlT (K : PySem.W.Frag) : V → Option Int → Option Int → Hp → VK → Prop := fun x lo hi H Q => ∃ a xs, x = .ref a ∧ SqT K H a xs ∧
  ¬ (HT.sIx xs.length 0 lo = 0 ∧ HT.sIx xs.length xs.length hi = xs.length) ∧ ∀ p, H p = none → Q (.ref p) (upd H p (.tup (cutV xs lo hi)))
/-! ### t < u, t + u -/
def rLtT (K : PySem.W.Frag) : R2 := fun x y H Q => ∃ a b ns ms, x = .ref a ∧ y = .ref b ∧ SqT K H a (ns.map V.int) ∧ SqT K H b (ms.map V.int) ∧ Q (.bl (HT.lexLt ns ms)) H
/-- t + u, t not empty: u empty gives t itself -/
def rCatT (K : PySem.W.Frag) : R2 := fun x y H Q => ∃ a b xs ys, x = .ref a ∧ y = .ref b ∧ SqT K H a xs ∧ SqT K H b ys ∧ xs ≠ [] ∧ xs.length + ys.length ≤ sizeLine ∧
  (ys = [] → Q (.ref a) H) ∧ (ys ≠ [] → ∀ p, H p = none → Q (.ref p) (upd H p (.tup (xs ++ ys))))
end
end L2

namespace L2
open PySem PySem.Spec PyProof.Rows

/-! ### places -/
/-- the place that an index of any sign means -/
def ixN (n : Nat) (i : Int) : Option Nat := if 0 ≤ i then (if i < n then some i.toNat else none) else if -(n : Int) ≤ i then some (i + n).toNat else none
def atI {α : Type} (xs : List α) (i : Int) : Option α := (ixN xs.length i).bind fun j => xs[j]?
theorem ixN_seq {n : Nat} {i : Int} {j : Nat} (h : ixN n i = some j) : seqIndex? i n = some j ∧ j < n ∧ -(n : Int) ≤ i ∧ i < n := by
  unfold ixN at h
  by_cases h0 : 0 ≤ i
  · rw [if_pos h0] at h
    by_cases h1 : i < n
    · rw [if_pos h1] at h
      have e : i.toNat = j := Option.some.inj h
      exact ⟨by rw [seqIndex_of h0 h1, e], by omega, by omega, h1⟩
    · rw [if_neg h1] at h; cases h
  · rw [if_neg h0] at h
    by_cases h1 : -(n : Int) ≤ i
    · rw [if_pos h1] at h
      have e : (i + n).toNat = j := Option.some.inj h
      exact ⟨by rw [seqIndex_neg (by omega) h1, e], by omega, h1, by omega⟩
    · rw [if_neg h1] at h; cases h
theorem atI_get {α : Type} {xs : List α} {i : Int} {v : α} (h : atI xs i = some v) : ∃ j, seqIndex? i xs.length = some j ∧ xs[j]? = some v ∧ j < xs.length ∧ -(xs.length : Int) ≤ i ∧ i < xs.length := by
  unfold atI at h
  cases e : ixN xs.length i with
  | none => rw [e] at h; cases h
  | some j =>
    rw [e] at h
    obtain ⟨h1, h2, h3, h4⟩ := ixN_seq e
    exact ⟨j, h1, h, h2, h3, h4⟩
theorem atI_nat {α : Type} {xs : List α} {j : Nat} {v : α} (h : xs[j]? = some v) : atI xs (j : Int) = some v := by
  have hj : j < xs.length := (List.getElem?_eq_some_iff.mp h).1
  have e : ixN xs.length (j : Int) = some j := by
    unfold ixN
    rw [if_pos (by omega), if_pos (by omega)]; simp
  unfold atI; rw [e]; exact h
theorem atI_last {α : Type} (xs : List α) (v : α) : atI (xs ++ [v]) (-1) = some v := by
  have hl : (xs ++ [v]).length = xs.length + 1 := by simp
  have e : ixN (xs ++ [v]).length (-1) = some xs.length := by
    unfold ixN
    rw [hl, if_neg (by decide), if_pos (by omega)]
    congr 1
    omega
  unfold atI
  rw [e]
  show (xs ++ [v])[xs.length]? = some v
  simp

/-! ### what may be subscripted -/
/-- what stands as an index of a plain subscript -/
def PlainIx (b : Expr) : Prop := ∀ o i, subscripted b false o i = operate [o, i] (getItem o i)
/-- a subscript by values -/
def IxR (X : Cx) (r : R2) : Prop :=
  ∀ (value slice : Expr) (pins : List (Addr × Obj)) (s : Shared) (σ : St) (H : Hp) (x y : V) (v u : Value) (Q : VK), Inv X pins σ H s → RelV x v → RelV y u → r x y H Q →
    subscripted slice false v u = operate [v, u] (getItem v u) → wpAny (model X.prog X.w) X.A (subscriptTail value slice v u) (EP X pins σ Q) X.xe s
/-- a call of a builtin's method by values: the receiver, the arguments -/
def MtR (X : Cx) (id : String) (r : V → List V → Hp → VK → Prop) : Prop :=
  ∀ (pins : List (Addr × Obj)) (s : Shared) (σ : St) (H : Hp) (x : V) (xs : List V) (v : Value) (us : List Value) (Q : VK), Inv X pins σ H s → RelV x v → Vals xs us → r x xs H Q →
    wpAny (model X.prog X.w) X.A (call (.builtin id) (v :: us)) (EP X pins σ Q) X.xe s
section
variable {X : Cx} {a b : Expr} {ta tb : TE} {pos : Pos}
theorem IxR.or {r r' : R2} (h : IxR X r) (h' : IxR X r') : IxR X (fun x y H Q => r x y H Q ∨ r' x y H Q) := by
  intro value slice pins s σ H x y v u Q I rx ry q hs
  rcases q with q | q
  · exact h value slice pins s σ H x y v u Q I rx ry q hs
  · exact h' value slice pins s σ H x y v u Q I rx ry q hs
/-- a[b] -/
theorem pe_ix {r : R2} (hr : IxR X r) (ha : PE X a ta) (hb : PE X b tb) (hs : PlainIx b) : PE X (.Subscript a b pos) (tOp r ta tb) := by
  intro pins s σ H Q I h
  exact Subscript_ (binT ha hb I h fun v u s2 x y H2 I2 rx ry q => hr a b pins s2 σ H2 x y v u Q I2 rx ry q (hs _ _))

def rIxL (K : PySem.W.Frag) : R2 := fun x y H Q => ∃ p xs i v, x = .ref p ∧ y = .int i ∧ SqL K H p xs ∧ atI xs i = some v ∧ Q v H
def rIxT (K : PySem.W.Frag) : R2 := fun x y H Q => ∃ p xs i v, x = .ref p ∧ y = .int i ∧ SqT K H p xs ∧ atI xs i = some v ∧ Q v H
def rIxS : R2 := fun x y H Q => ∃ z i c, x = .str z ∧ y = .int i ∧ z.length ≤ sizeLine ∧ atI z.cps.toList i = some c ∧ Q (.str ⟨#[c]⟩) H
theorem ix_list : IxR X (rIxL X.K) := by
  intro value slice pins s σ H x y v u Q I rx ry h hs
  obtain ⟨p, xs, i, z, rfl, rfl, hq, he, q⟩ := h
  cases rx
  obtain ⟨t, rfl⟩ := ry
  obtain ⟨its, r, pl, hz⟩ := I.list hq
  obtain ⟨j, h1, h2, h3, h4, h5⟩ := atI_get he
  obtain ⟨w, ew, rw'⟩ := r.get h2
  have hl := r.length
  have hn := line63
  have fin : EP X pins σ Q w s := ⟨z, H, I, rw', q⟩
  by_cases h0 : 0 ≤ i
  · have hj : i.toNat = j := by
      rw [seqIndex_of h0 h5] at h1
      exact Option.some.inj h1
    exact item_listR pl.isList h0 (by omega) (by rw [hj]; simpa using ew) fin hs
  · have hj : (i + (its.toArray.size : Int)).toNat = j := by
      rw [seqIndex_neg (by omega) h4] at h1
      rw [List.size_toArray, ← hl]
      exact Option.some.inj h1
    exact subscriptTail_builtinR (x := w) pl.isList.typeIs slot_list_getitem.lookup
      (wpAny_getItem_list_neg (Q := fun r s' => r = w ∧ EP X pins σ Q r s') pl.isList (by omega) (by rw [List.size_toArray] <;> omega) (by omega) (by rw [hj]; simpa using ew) ⟨rfl, fin⟩) hs
theorem ix_tup : IxR X (rIxT X.K) := by
  intro value slice pins s σ H x y v u Q I rx ry h hs
  obtain ⟨p, xs, i, z, rfl, rfl, hq, he, q⟩ := h
  cases rx
  obtain ⟨t, rfl⟩ := ry
  obtain ⟨its, r, pl, hz⟩ := I.tuple hq
  obtain ⟨j, h1, h2, h3, h4, h5⟩ := atI_get he
  obtain ⟨w, ew, rw'⟩ := r.get h2
  have hl := r.length
  have hn := line63
  have fin : EP X pins σ Q w s := ⟨z, H, I, rw', q⟩
  exact subscriptTail_builtinR (x := w) pl.typeIs slot_tuple_getitem.lookup
    (getItem_tuple (j := j) (Q := fun r s' => r = w ∧ EP X pins σ Q r s') pl (by omega) (by omega) (by rw [List.size_toArray, ← hl]; exact h1) (by simpa using ew) ⟨rfl, fin⟩) hs
/-- list, tuple or str -/
def rIx (K : PySem.W.Frag) : R2 := fun x y H Q => rIxL K x y H Q ∨ rIxT K x y H Q ∨ rIxS x y H Q
/-! ### xs[i] = v, any sign -/
def rSetL : V → V → V → Hp → (Hp → Prop) → Prop := fun o i v H Q => ∃ p xs k j, o = .ref p ∧ i = .int k ∧ H p = some (.lst xs) ∧ ixN xs.length k = some j ∧ Q (upd H p (.lst (xs.set j v)))
/-! ### slices -/
theorem slice_bounds (lo hi : Option Int) (n : Nat) : (sliceBounds lo hi none n).1 = ((HT.sIx n 0 lo : Nat) : Int) ∧ (sliceBounds lo hi none n).2.1 = ((HT.sIx n n hi : Nat) : Int) ∧ (sliceBounds lo hi none n).2.2 = 1 := by
  refine ⟨?_, ?_, rfl⟩
  · cases lo with
    | none => simp [sliceBounds, HT.sIx]
    | some i =>
      simp only [sliceBounds, HT.sIx, Option.getD_none, show (1 : Int) > 0 by decide, if_true]
      by_cases h : i < 0
      · simp only [h, if_true] <;> omega
      · simp only [h, if_false] <;> omega
  · cases hi with
    | none => simp [sliceBounds, HT.sIx]
    | some i =>
      simp only [sliceBounds, HT.sIx, Option.getD_none, show (1 : Int) > 0 by decide, if_true]
      by_cases h : i < 0
      · simp only [h, if_true] <;> omega
      · simp only [h, if_false] <;> omega
theorem slicePick_cut (its : List Value) (lo hi : Option Int) : slicePick its.toArray lo hi none = ((its.drop (HT.sIx its.length 0 lo)).take (HT.sIx its.length its.length hi - HT.sIx its.length 0 lo)).toArray := by
  obtain ⟨h1, h2, h3⟩ := slice_bounds lo hi its.toArray.size
  unfold slicePick
  rw [h1, h2, h3]
  simp only [sliceRange_one, pick_run, List.size_toArray] <;> rfl
/-- xs[lo:hi] of a list: a new list -/
def rSlL (K : PySem.W.Frag) : V → Option Int → Option Int → Hp → VK → Prop := fun x lo hi H Q => ∃ a xs, x = .ref a ∧ SqL K H a xs ∧ ∀ p, H p = none → Q (.ref p) (upd H p (.lst (cutV xs lo hi)))
theorem sl_list : SlR X (rSlL X.K) := by
  intro pins s σ H x v vl vu lo hi sl Q I rx hs pl pu h
  obtain ⟨a, xs, rfl, hx, q⟩ := h
  cases rx
  obtain ⟨its, r, ht, hz⟩ := I.list hx
  have hlen := r.length
  refine ⟨"list", _, slot_list_getitem.lookup, ht.isList.typeIs, ?_⟩
  refine wpAny_getItem_list_slice ht.isList hs pl pu .none (by simp) ?_ (by rw [List.size_toArray] <;> omega)
  rw [slicePick_cut, ← hlen]
  refine ⟨.ref s.heap.objs.size, _, I.laid (t' := s.toks) (o := .lst (cutV xs lo hi)) (fun b ob q => Heap.get?_push_of_some _ q) (Nat.le_refl _) ?_, rfl, q _ (I.hok.fresh (Nat.le_refl _))⟩
  exact ⟨Nat.le_trans (cutV_length xs lo hi) hz, _, 0, (r.drop (HT.sIx xs.length 0 lo)).take (HT.sIx xs.length xs.length hi - HT.sIx xs.length 0 lo), Heap.get?_push_size _ rfl⟩

/-! ### in, not in: flat items -/
def flatV : V → Bool
  | .non => true
  | .bl _ => true
  | .int _ => true
  | .str _ => true
  | _ => false
/-- == of flat values -/
def eqV : V → V → Bool
  | .non, .non => true
  | .bl a, .bl b => a == b
  | .bl a, .int b => (if a then 1 else 0) == b
  | .int a, .bl b => a == (if b then 1 else 0)
  | .int a, .int b => a == b
  | .str a, .str b => a == b
  | _, _ => false
/-- the items' answers, read off the values (a value's own answer does not lean on its token) -/
def eqU (x : V) (u : Value) : Bool := match u with
  | .none => eqV .non x
  | .bool b => eqV (.bl b) x
  | .int i _ => eqV (.int i) x
  | .str z _ => eqV (.str z) x
  | _ => false
def inV (x : V) (xs : List V) : Bool := xs.any fun y => eqV y x
/-- x in a list or tuple of flat items -/
def rIn (K : PySem.W.Frag) (neg : Bool) : R2 := fun x y H Q => ∃ p xs, y = .ref p ∧ (SqL K H p xs ∨ SqT K H p xs) ∧ flatV x = true ∧ xs.all flatV = true ∧ Q (.bl (if neg then !inV x xs else inV x xs)) H
/-! ### len, list(x), tuple(x) of any list or tuple that is read -/
/-! ### the call of a builtin's method: o.m(..) -/
/-- the value is of that builtin type -/
def tyV (K : PySem.W.Frag) (T : String) (x : V) (H : Hp) : Prop := match x with
  | .str _ => T = "str"
  | .int _ => T = "int"
  | .ref p => (T = "list" ∧ ∃ xs, SqL K H p xs) ∨ (T = "tuple" ∧ ∃ o, K.lookup p = some o ∧ o.cls = .type "tuple" ∧ o.dict = none) ∨
      (T = "dict" ∧ ((∃ kvs, H p = some (.dK kvs)) ∨ ∃ kvs, H p = some (.dT kvs))) ∨ (T = "set" ∧ ∃ S n, H p = some (.set S n))
  | _ => False
theorem tyV_is {pins : List (Addr × Obj)} {σ : St} {H : Hp} {s : Shared} {T : String} {x : V} {v : Value} (I : Inv X pins σ H s) (r : RelV x v) (ty : tyV X.K T x H) :
    s.TypeIs v T ∧ ∀ a, v = .ref a → ∃ ob, s.heap.get? a = some ob ∧ ob.dict = none := by
  cases x with
  | str z =>
    obtain ⟨t, rfl⟩ := r
    cases (show T = "str" from ty)
    exact ⟨typeIs_str s z t, fun _ e => nomatch e⟩
  | int i =>
    obtain ⟨t, rfl⟩ := r
    cases (show T = "int" from ty)
    exact ⟨typeIs_int s i t, fun _ e => nomatch e⟩
  | ref p =>
    cases r
    rcases ty with ⟨rfl, xs, hq⟩ | ⟨rfl, o, hk, hc, hd⟩ | ⟨rfl, hk⟩ | ⟨rfl, S, n, hk⟩
    · obtain ⟨its, _, pl, _⟩ := I.list hq
      refine ⟨pl.isList.typeIs, fun a e => ?_⟩
      cases e
      obtain ⟨o, n, e, c, hd, _⟩ := pl
      exact ⟨o, e, hd⟩
    · refine ⟨⟨o, I.kIn p o hk, hc⟩, fun a e => ?_⟩
      cases e
      exact ⟨o, I.kIn _ o hk, hd⟩
    · have z : ∃ o, s.heap.get? p = some o ∧ o.ExactDict := by
        rcases hk with ⟨kvs, hk⟩ | ⟨kvs, hk⟩
        · obtain ⟨_, _, _, _, o, _, _, e, ex, _⟩ := I.hok p _ hk
          exact ⟨o, e, ex⟩
        · obtain ⟨_, _, _, _, o, _, _, e, ex, _⟩ := I.hok p _ hk
          exact ⟨o, e, ex⟩
      obtain ⟨o, e, ex⟩ := z
      refine ⟨⟨o, e, ex.1⟩, fun a e2 => ?_⟩
      cases e2
      exact ⟨o, e, ex.2.1⟩
    · obtain ⟨o, _, _, _, e, ex, _⟩ := I.hok p _ hk
      refine ⟨⟨o, e, ex.1⟩, fun a e2 => ?_⟩
      cases e2
      exact ⟨o, e, ex.2.1⟩
  | _ => exact False.elim ty
def tBM0 (K : PySem.W.Frag) (T : String) (r : V → List V → Hp → VK → Prop) (to : TE) : TE := fun σ H Q => to σ H fun x H1 => tyV K T x H1 ∧ r x [] H1 Q
def tBM (K : PySem.W.Frag) (T : String) (r : V → List V → Hp → VK → Prop) (to : TE) (t : TA) : TE := fun σ H Q => to σ H fun x H1 => tyV K T x H1 ∧ t σ H1 fun xs H2 => r x xs H2 Q
variable {o e : Expr} {es : List Expr} {to : TE} {t : TA} {name : Str} {apos cpos : Pos} {T id : String} {r : V → List V → Hp → VK → Prop}
theorem pe_bm (pa : PlainAttrs T) (slot : Slot T name id) (hty : typeOf (.builtin id) = pure (.type "method_descriptor")) (hm : MtR X id r) (ho : PE X o to) (ha : PA X (e :: es) t)
    (hbase : attributeBase o name X.env (eval o X.env) = eval o X.env := by rfl)
    (hfew : ((backTo cpos (starEach (e :: es) X.env)).all (fun x => !x.1) && (backToKw cpos (keywordEach [] X.env)).all (fun x => x.1.isSome)
      && decide ((e :: es).length + ([] : List Keyword).length + (if ([] : List Keyword).isEmpty then 0 else 1) < 30)) = true := by rfl)
    (hline : (apos.endLine == cpos.line) = true := by rfl) (hs : starEach (e :: es) X.env = (false, eval e X.env) :: starEach es X.env := by rfl) (hplain : (backTo cpos (starEach es X.env)).any (·.1) = false := by rfl) :
    PE X (.Call (.Attribute o name apos) (e :: es) [] cpos) (tBM X.K T r to t) := by
  intro pins s σ H Q I h
  refine wpAny_Call_method_late hbase hfew hline rfl (thn (ho pins s σ H _ I h) fun v s1 ⟨x, H1, I1, r1, ty, q1⟩ => ?_)
  obtain ⟨h1, h2⟩ := tyV_is I1 r1 ty
  refine ⟨T, id, pa, slot, hty, h1, h2, ?_⟩
  have hA := ha cpos pins s1 σ H1 _ I1 q1
  rw [hs] at hA ⊢
  refine Calls.callWith_builtin (by show (false || (backTo cpos (starEach es X.env)).any (·.1)) = false; rw [hplain] <;> rfl) (Calls.evalArgs_plain ?_)
  exact thn hA fun us s2 ⟨vs, H2, I2, r2, q2⟩ => hm pins s2 σ H2 x vs v us Q I2 r1 r2 q2
/- xs.append(e), list.index on a module's tuple .. are MtR facts of 06m -/
end
end L2

namespace L2
open PySem PySem.Spec PyProof.Rows

def MtM (X : Cx) (id : String) (r : V → List V → Hp → VK → Prop) : Prop :=
  ∀ (pins : List (Addr × Obj)) (s : Shared) (σ : St) (H : Hp) (x : V) (xs : List V) (v : Value) (us : List Value) (Q : VK), Inv X pins σ H s → RelV x v → Vals xs us → r x xs H Q →
    wpAny (model X.prog X.w) X.A (call (.builtin id) (v :: us)) (EP X pins σ Q) X.xe s

/-! ### lists of values -/
theorem Vals.one : ∀ {x : V} {us : List Value}, Vals [x] us → ∃ u, us = [u] ∧ RelV x u
  | _, _, .cons r .nil => ⟨_, rfl, r⟩
theorem Vals.rep {xs : List V} {us : List Value} (h : Vals xs us) : ∀ k : Nat, Vals (List.replicate k xs).flatten (List.replicate k us).flatten
  | 0 => .nil
  | k + 1 => by
    rw [List.replicate_succ, List.replicate_succ, List.flatten_cons, List.flatten_cons]
    exact Vals.append h (Vals.rep h k)
theorem foldl_rep (its : List Value) : ∀ (k : Nat) (acc : List Value),
    List.foldl (fun x1 x2 => x1 ++ x2) acc.toArray (List.replicate k its.toArray) = (acc ++ (List.replicate k its).flatten).toArray
  | 0, acc => by simp
  | k + 1, acc => by
    have e : acc.toArray ++ its.toArray = (acc ++ its).toArray := by simp
    have e2 : (acc ++ its) ++ (List.replicate k its).flatten = acc ++ (List.replicate (k + 1) its).flatten := by
      rw [List.replicate_succ, List.flatten_cons, List.append_assoc]
    rw [← e2, ← foldl_rep its k (acc ++ its), ← e, List.replicate_succ, List.foldl_cons]

section
variable {X : Cx} {pins : List (Addr × Obj)} {σ : St} {H : Hp} {s : Shared} {l b : Addr} {xs ys zs : List V}

/-! ### the two steps: a tracked list is rewritten, a new list is laid -/
theorem Inv.lset {its its' : List Value} {n : Nat} {f : Array Value → Array Value} {t' : Nat} (I : Inv X pins σ H s) (hH : H l = some (.lst xs))
    (e : s.heap.get? l = some { cls := .type "list", data := .seq its.toArray n }) (hf : f its.toArray = its'.toArray) (hv : Vals ys its') (hz : ys.length ≤ sizeLine) :
    Inv X pins σ (upd H l (.lst ys)) { s with heap := s.heap.update l (Obj.mapSeq f), toks := t' } := by
  have q := PySem.IsL.update e f
  rw [hf] at q
  refine I.write (x := l) (e := l) (by rw [hH]; exact trivial) (.inl rfl) (fun b' u hb hu => (Heap.get?_update_other s.heap (Obj.mapSeq f) (Ne.symm hb)).trans hu) ⟨_, q⟩ ?_
  exact ⟨hz, its', _, hv, q⟩
theorem Inv.lnew {its : List Value} {t' : Nat} (I : Inv X pins σ H s) (hv : Vals ys its) (hz : ys.length ≤ sizeLine) :
    Inv X pins σ (upd H s.heap.objs.size (.lst ys)) { s with heap := s.heap.push { cls := .type "list", data := .seq its.toArray }, toks := t' } :=
  I.laid (fun _ _ q => Heap.get?_push_of_some _ q) (Nat.le_refl _) ⟨hz, its, 0, hv, Heap.get?_push_size _ rfl⟩
theorem Inv.fresh (I : Inv X pins σ H s) : H s.heap.objs.size = none := I.hok.fresh (Nat.le_refl _)
theorem Inv.lstM (I : Inv X pins σ H s) (hH : H l = some (.lst xs)) : xs.length ≤ sizeLine ∧ ∃ (its : List Value) (n : Nat), Vals xs its ∧ xs.length = its.length ∧ s.heap.get? l = some { cls := .type "list", data := .seq its.toArray n } := by
  obtain ⟨z, its, n, r, e⟩ := I.hok l _ hH
  exact ⟨z, its, n, r, r.length, e⟩

theorem notLongL {n : Nat} (h : n ≤ sizeLine) : Builtin.List.listTooLong n = false := by
  unfold Builtin.List.listTooLong
  exact decide_eq_false (by omega)
end

section
variable {X : Cx}

/-! ### methods -/
def rAppend : V → List V → Hp → VK → Prop := fun x vs H Q => ∃ l xs y, x = .ref l ∧ vs = [y] ∧ H l = some (.lst xs) ∧ xs.length < sizeLine ∧ Q .non (upd H l (.lst (xs ++ [y])))
theorem mt_append : MtM X "list.append" rAppend := by
  intro pins s σ H x vs v us Q I rx rv h
  obtain ⟨l, xs, y, rfl, rfl, hH, hz, q⟩ := h
  cases rx
  obtain ⟨u, rfl, ru⟩ := rv.one
  obtain ⟨z, its, n, r, hl, e⟩ := I.lstM hH
  refine call_meets F.slot_list_append ⟨_, e, rfl⟩ F.entry_list_append (F.args_list_append_2 _ _) (PySem.list_append l its.toArray n u (by rw [List.size_toArray]; omega)) ⟨e, ?_⟩
  refine ⟨.non, _, I.lset (its' := its ++ [u]) hH e (by simp) (r.append (.cons ru .nil)) ?_, rfl, q⟩
  rw [List.length_append, List.length_singleton]
  omega

def rExtend : V → List V → Hp → VK → Prop := fun x vs H Q => ∃ l b xs zs, x = .ref l ∧ vs = [.ref b] ∧ H l = some (.lst xs) ∧ H b = some (.lst zs) ∧ xs.length + zs.length ≤ sizeLine ∧ Q .non (upd H l (.lst (xs ++ zs)))
def rPop : V → List V → Hp → VK → Prop := fun x vs H Q => ∃ l xs y, x = .ref l ∧ vs = [] ∧ H l = some (.lst xs) ∧ xs[xs.length - 1]? = some y ∧ Q y (upd H l (.lst xs.dropLast))
def rPopAt : V → List V → Hp → VK → Prop := fun x vs H Q => ∃ l xs i k y, x = .ref l ∧ vs = [.int i] ∧ H l = some (.lst xs) ∧ -(2 ^ 63) ≤ i ∧ i < 2 ^ 63 ∧ seqIndex? i xs.length = some k ∧ xs[k]? = some y ∧ Q y (upd H l (.lst (xs.eraseIdx k)))
def rReverse : V → List V → Hp → VK → Prop := fun x vs H Q => ∃ l xs, x = .ref l ∧ vs = [] ∧ H l = some (.lst xs) ∧ Q .non (upd H l (.lst xs.reverse))
def rClear : V → List V → Hp → VK → Prop := fun x vs H Q => ∃ l xs, x = .ref l ∧ vs = [] ∧ H l = some (.lst xs) ∧ Q .non (upd H l (.lst []))
/-! ### list + list, list += list, list * int -/
def rCat : R2 := fun x y H Q => ∃ l b xs zs, x = .ref l ∧ y = .ref b ∧ H l = some (.lst xs) ∧ H b = some (.lst zs) ∧ xs.length + zs.length ≤ sizeLine ∧ ∀ p, H p = none → Q (.ref p) (upd H p (.lst (xs ++ zs)))
theorem op_cat : OpR X (binaryOp .Add) rCat := by
  intro pins s σ H x y v u Q I rx ry h
  obtain ⟨l, b, xs, zs, rfl, rfl, hH, hB, hz, q⟩ := h
  cases rx
  cases ry
  obtain ⟨z, its, n, r, hl, e⟩ := I.lstM hH
  obtain ⟨z2, its2, n2, r2, hl2, e2⟩ := I.lstM hB
  refine PySem.P.add_list e e2 ?_ (by rw [List.size_toArray, List.size_toArray]; omega)
  have ea : its.toArray ++ its2.toArray = (its ++ its2).toArray := by simp
  rw [ea]
  exact ⟨.ref _, _, I.lnew (t' := s.toks) (r.append r2) (by rw [List.length_append]; omega), rfl, q _ I.fresh⟩
/-- a list times an int (a negative one is nothing) -/
def rRep : R2 := fun x y H Q => ∃ l k xs, x = .ref l ∧ y = .int k ∧ H l = some (.lst xs) ∧ -(2 ^ 63) ≤ k ∧ k < 2 ^ 63 ∧ xs.length * k.toNat ≤ sizeLine ∧
  ∀ p, H p = none → Q (.ref p) (upd H p (.lst (List.replicate k.toNat xs).flatten))
theorem len_rep {α : Type} (xs : List α) (k : Nat) : (List.replicate k xs).flatten.length = k * xs.length := by
  induction k with
  | zero => simp
  | succ k ih => rw [List.replicate_succ, List.flatten_cons, List.length_append, ih, Nat.succ_mul, Nat.add_comm]
theorem op_rep : OpR X (binaryOp .Mult) rRep := by
  intro pins s σ H x y v u Q I rx ry h
  obtain ⟨l, k, xs, rfl, rfl, hH, h1, h2, hz, q⟩ := h
  cases rx
  obtain ⟨t, rfl⟩ := ry
  obtain ⟨z, its, n, r, hl, e⟩ := I.lstM hH
  have hlen : its.toArray.size * k.toNat ≤ sizeLine := by rw [List.size_toArray, ← hl]; exact hz
  have hcap : ¬ its.toArray.size * k.toNat > (2 ^ 63 - 1) / 8 := by
    have : (sizeLine : Nat) ≤ (2 ^ 63 - 1) / 8 := by decide
    omega
  have hfit : ¬ (!Builtin.List.listFitsIndex k) = true := by
    rw [fitsIndex_both h1 h2]
    exact Bool.false_ne_true
  have hlong : ¬ Builtin.List.listTooLong (its.toArray.size * k.toNat) = true := by
    rw [notLongL hlen]
    exact Bool.false_ne_true
  have hnew : List.foldl (fun x1 x2 => x1 ++ x2) #[] (List.replicate (if its.toArray.isEmpty = true then 0 else k.toNat) its.toArray) = (List.replicate k.toNat its).flatten.toArray := by
    have f0 : ∀ m : Nat, List.foldl (fun x1 x2 => x1 ++ x2) #[] (List.replicate m its.toArray) = (List.replicate m its).flatten.toArray := fun m => by
      have := foldl_rep its m []
      rw [List.nil_append] at this
      exact this
    rw [f0]
    cases its with
    | nil => simp
    | cons a r' => rw [if_neg (by simp)]
  refine wpAny_binaryOp_repeat_ref (T := "list") (U := "int") (by decide) ⟨_, e, rfl⟩ (fun s' => typeIs_int s' k t) noFill_list_mul F.fills_int_mul F.slot_int_rmul repeat_list F.slot_int_index.lookup
    (call_meets F.slot_int_rmul (typeIs_int s k t) F.entry_int_rmul (F.args_int_rmul_2 _ _) (int___rmul___int_list k t l its.toArray n)
      ⟨e, rfl, ⟨_, e, rfl⟩, call_meets F.slot_list_mul ⟨_, e, rfl⟩ F.entry_list_mul (F.args_list_mul_2 _ _) (AutoListH.list___mul___list_int_3 l its.toArray n k t hfit hcap hlong) ⟨e, ?_⟩⟩)
  rw [hnew]
  exact ⟨.ref _, _, I.lnew (t' := s.toks) (r.rep k.toNat) (by rw [len_rep, Nat.mul_comm]; exact hz), rfl, q _ I.fresh⟩

/-! ### del xs[i] -/
end

/-! ### xs[a:b] = ys -/
section
variable {prog : Program} {w : World} {A : Around} {E : Value → Shared → Prop} {s : Shared}
end

section
variable {X : Cx}
end
end L2

namespace Att
open PySem PySem.W PySem.Calls PyProof.Rows

/-! ### the script -/
theorem ints_of_wellAll {P : Params} {h : Heap} : ∀ (ns : List Int) (vs : List Value), WellAll P h vs (ns.map WData.int) → IntsAre vs ns := by
  intro ns
  induction ns with
  | nil =>
    intro vs w
    rw [List.map_nil] at w
    cases w
    exact .nil
  | cons n ns ih =>
    intro vs w
    rw [List.map_cons] at w
    cases w with
    | cons a b =>
      cases a
      exact .cons _ _ (ih _ b)

theorem script_of {l : OpenLaw} {n : Nat} (hn : l.most = some n) {P : Params} {h : Heap} {args : List WData} {vals : List Value}
    (hpre : l.row.toRowW.claim.pre args = true) (hwl : WellAll P h vals args) :
    ∃ a vs ns, vals = [Value.ref a] ∧ args = [WData.list (ns.map WData.int)] ∧ h.get? a = some { cls := .type "list", data := .seq vs.toArray } ∧ IntsAre vs ns ∧ ns.length ≤ n := by
  have hsh : WShape.hasAll [] args [.list .int] = true := (pre_splitW hpre).1
  have hc : l.pre.holds [] { args := args } = true := (pre_splitW hpre).2
  obtain ⟨d, r, rfl, h1, h2⟩ := hasAllW_cons hsh
  obtain rfl := hasAllW_nil h2
  obtain ⟨xs, rfl, h3⟩ := hasW_list h1
  obtain ⟨ns, rfl⟩ := items_int h3
  have hlen : ns.length ≤ n := by
    unfold OpenLaw.pre at hc
    have h4 : (WTm.not (.lt (.lit (.int (n : Int))) (.len (.arg 0)))).holds [] { args := [.list (ns.map .int)] } = true := by
      have h4 := (holds_andW hc).1
      rw [hn] at h4
      exact h4
    have h5 := condW_of h4 (w_not (w_lt w_lit (w_len_list (w_arg rfl))))
    rw [List.length_map] at h5
    refine Nat.le_of_not_lt fun q => ?_
    have q' : (n : Int) < ((ns.length : Nat) : Int) := by omega
    first
      | (rw [decide_eq_true q'] at h5; exact absurd h5 (by decide))
      | (simp at h5; omega)
  cases hwl with
  | cons w1 w2 =>
    cases w2
    cases w1 with
    | list ho hall => exact ⟨_, _, ns, rfl, rfl, ho, ints_of_wellAll ns _ hall, hlen⟩

theorem post_true (l : OpenLaw) (args : List WData) : l.row.toRowW.claim.post args (.bool true) args = true :=
  postW_of (r := l.row.toRowW) (X := (true == true))
    (show WShape.has [] (.bool true) .bool = true by first | rfl | decide | simp [WShape.has, WShape.arms, WShape.armsAll])
    (show (WTm.eq .res (.lit (.bool true))).value [] { args := args, res := some (.bool true), after := args } = some (.bool (true == true)) from w_eq_bool (w_res rfl) w_lit) rfl

/-! ### the attachment: holds_open's last premise (the goal 'hc' behind k_head) from a wpAny of the law's body -/
/-- the same from a codeAny of the CALL (for a layer whose function contracts speak of calls) -/
theorem attach_call {l : OpenLaw} {n : Nat} {q : Program} {loose : List Str} {XP : (Str → Option Value) → Heap → Prop} {YP : World → Heap → Prop} {d : DefRec}
    (hn : l.most = some n) (hdf : d.params.defaults = [])
    (call : ∀ (w : World) (s₀ s₁ : Shared) (mg mb : Str → Option Value) (fa : Addr) (o : Obj) (pm cd doc : Value) (a : Addr) (vs : List Value) (ns : List Int),
      Ground q loose [] XP w s₀ mg mb s₁.heap → YP w s₁.heap →
      s₁.heap.get? fa = some o → o.data = .func (docDef d.name d.params d.body d.scope pm cd doc) → s₁.heap.CodeRec cd d.name → mg d.name = some (.ref fa) →
      s₁.heap.get? a = some { cls := .type "list", data := .seq vs.toArray } → IntsAre vs ns → ns.length ≤ n → s₁.gens = #[] →
      codeAny (model l.prog w) callerA (.call (.ref fa) ⟨[.ref a], []⟩) (fun r s' => r = .ok (.ret (.bool true)) ∧ OldK s₁.heap s'.heap ∧ s'.os = s₁.os ∧ AllBare s'.gens) s₁) :
    WalkO q loose XP YP l.row.toRowW d [] (fun f vs => PySem.call f vs) := by
  intro w s₀ s₁ mg mb G Y fa o pm cd doc dV kV ho hd hcd hD hmg hg args vals as hpre hlay hrd hwl hlo
  obtain rfl : dV = .none := Dflts.none hD hdf
  obtain rfl : kV = .none := Dflts.noKw hD
  obtain ⟨a, vs, ns, rfl, rfl, hobj, hints, hlen⟩ := script_of hn hpre hwl
  refine enter_call (codeAny_mono (call w s₀ s₁ mg mb fa o pm cd doc a vs ns G Y ho (fd_plain hd) hcd hmg hobj hints hlen hg) fun r s' hq => ?_)
  obtain ⟨rfl, h2, h3, h4⟩ := hq
  exact ⟨.inl ⟨.bool true, .bool true, [], rfl, fun _ => rfl, .bool true, post_true l _, fun _ => ⟨List.Pairwise.nil, fun _ hm => (nomatch hm)⟩⟩, h2, h3, h4⟩

/-! ### rules over ANY heap (no ledger) from facts about the written part K: the library's own take a ledger (News) for what they write -/
section
variable {prog : Program} {w : World} {A : Around} {E : Value → Shared → Prop} {s : Shared} {K : Frag}

/-! the whole heap as the ledger: makes every rule that writes through a ledger a rule over any heap -/
def noObjs (h : Heap) : Heap := { h with objs := #[] }
def ledger (h : Heap) (L d : Addr) : List (Addr × Obj) := (List.range h.objs.size).filterMap fun a => if a = L ∨ a = d then none else (h.get? a).map fun o => (a, o)
end
end Att

namespace L2
open PySem PySem.Spec PyProof.Rows

theorem vals_ints : ∀ {vs : List Value} {ns : List Int}, IntsAre vs ns → Vals (ns.map V.int) vs
  | _, _, .nil => .nil
  | _, _, .cons n t h => .cons ⟨t, rfl⟩ (vals_ints h)

/-- nothing is tracked but the script, known to the object (or it is an object of the module) -/
def Only (H : Hp) : Prop := ∀ b, H b = none ∨ ∃ o xs, H b = some (.frz o (.lst xs))

/-- THE HEAD: the law's promise, at the heap behind the top. F, the promise of the law's def, may use that base is part of the heap (so K.In base, base.Ns mainGlobals mg stand in Mod) -/
theorem law_call {P : Program} {w : World} {K : PySem.W.Frag} {mg mb : Str → Option Value} {CX : CXT} {k : Nat} {fa a : Addr} {fd : FuncData} {x : Str} {sp : Sp} {s₁ : Shared} {vs : List Value} {ns : List Int}
    (KX : K.In s₁.heap) (hns : s₁.heap.Ns mainGlobals mg) (hb : s₁.heap.Ns builtinsNs mb) (hbb : ∀ x : Str, x ≠ "__name__" → mb x = bootBuiltins x) (hlim : s₁.heap.NoLimit) (hg : s₁.gens = #[])
    (ha : s₁.heap.get? a = some { cls := .type "list", data := .seq vs.toArray }) (hi : IntsAre vs ns) (hl : ns.length ≤ sizeLine) (hr : Room k callerA)
    (F : ∀ base : Heap, K.In base → base.Ns mainGlobals mg → FnOk P w K mg base CX k fa fd [x] sp) (hbind : ∀ (s : Shared) (u : Value), BindsTo s fd ⟨[u], []⟩ [(x, u)])
    (hsp : ∀ H : Hp, Only H → SqL K H a (ns.map V.int) → sp [.ref a] H (fun v _ => v = .bl true) fun _ _ _ => False)
    (hCX : ∀ H e s', CX [] H s₁ (fun _ _ _ => False) e s' → False) :
    codeAny (model P w) callerA (.call (.ref fa) ⟨[.ref a], []⟩) (fun r s' => r = .ok (.ret (.bool true)) ∧ OldK s₁.heap s'.heap ∧ s'.os = s₁.os ∧ AllBare s'.gens) s₁ := by
  have rv := vals_ints hi
  have lenV := hi.length
  -- from an abstract heap in which nothing but the script may be tracked
  have core : ∀ H : Hp, Only H → SqL K H a (ns.map V.int) → HOk P w H s₁.heap → (∀ b, H b ≠ none → b = a) → (H a ≠ none → K.lookup a = none) →
      codeAny (model P w) callerA (.call (.ref fa) ⟨[.ref a], []⟩) (fun r s' => r = .ok (.ret (.bool true)) ∧ OldK s₁.heap s'.heap ∧ s'.os = s₁.os ∧ AllBare s'.gens) s₁ := by
    intro H hO hS hok hA hK
    have base_of : ∀ {b : Addr} {o : Obj}, s₁.heap.get? b = some o → H b = none → (hidT s₁.heap H).get? b = some o := fun e n => hidT_get e n
    have noA : ∀ {b : Addr} {o : Obj} {es : Array DictEntry} {ep : Nat}, s₁.heap.get? b = some o → o.data = .dict es ep → H b = none := fun {b o es ep} e d => by
      cases q : H b with
      | none => rfl
      | some u =>
        have e' : b = a := hA b (by rw [q]; simp)
        subst e'
        rw [ha] at e; cases e
        have d' : Data.seq vs.toArray _ = Data.dict es ep := d
        cases d'
    have nsK : ∀ {b : Addr} {m : Str → Option Value}, s₁.heap.Ns b m → (hidT s₁.heap H).Ns b m := fun {b m} ⟨o, es, ep, e, d, r⟩ => ⟨o, es, ep, base_of e (noA e d), d, r⟩
    have hKb : K.In (hidT s₁.heap H) := fun b o e => base_of (KX b o e) (by
      cases q : H b with
      | none => rfl
      | some u =>
        have e' : b = a := hA b (by rw [q]; simp)
        subst e'
        rw [hK (by rw [q]; simp)] at e; cases e)
    have hM : Mod K mg (hidT s₁.heap H) := ⟨hKb, nsK hns, ⟨mb, nsK hb, hbb⟩, let ⟨mc, h1, h2⟩ := hlim; ⟨mc, nsK h1, h2⟩⟩
    have e0 : Env0 P w K mg (hidT s₁.heap H) callerA [] s₁ H := ⟨rfl, hM, fun b o e => of_hidT e, Nat.le_of_eq (hidT_size _ _), trivial, fun b hb => absurd (show b ∈ ([] : List Addr) from hb) (by simp), hok, .of_eq hg⟩
    refine codeAny_mono ((F _ hKb (nsK hns)).run callerA [] s₁ H ⟨[.ref a], []⟩ [.ref a] [.ref a] _ _ hr e0 (hbind s₁ (.ref a)) (.cons rfl .nil) (hsp H hO hS)) fun r s' h => ?_
    cases r with
    | error e => exact (hCX H e s' h).elim
    | ok fl =>
      cases fl with
      | next => exact False.elim h
      | brk => exact False.elim h
      | cont => exact False.elim h
      | ret u =>
        obtain ⟨v, H', os, bare, un, hok', r', q⟩ := h
        have q' : v = .bl true := q
        subst q'
        obtain rfl : u = Value.bool true := r'
        refine ⟨rfl, OldK.of_keep fun b o e => ?_, os, bare⟩
        cases q : H b with
        | none => exact un.keep b o e q (by intro z; exact absurd (show b ∈ ([] : List Addr) from z) (by simp)) (by simp)
        | some u =>
          rcases hO b with z | ⟨ob, xs, z⟩
          · rw [q] at z; cases z
          · have z2 := un.frzs b ob _ z
            obtain ⟨e1, _⟩ := hok b _ z
            obtain ⟨e2, _⟩ := hok' b _ z2
            rw [e] at e1; cases e1
            exact e2
  cases hk : K.lookup a with
  | some o =>
    -- the script is one of the module's own objects
    have e := KX a o hk
    rw [ha] at e
    cases e
    refine core (fun _ => none) (fun _ => .inl rfl) (.inr ⟨_, vs.toArray, _, hk, rfl, rfl, rfl, by rw [List.size_toArray, lenV]; exact hl, by simpa using rv⟩) (fun b u z => by have z' : (none : Option HO) = some u := z; cases z') (fun b z => absurd rfl z) fun z => absurd rfl z
  | none =>
    refine core (fun b => if b = a then some (.frz { cls := .type "list", data := .seq vs.toArray } (.lst (ns.map V.int))) else none) (fun b => ?_) (.inl (.inr ⟨{ cls := .type "list", data := .seq vs.toArray }, if_pos rfl⟩)) (fun b u z => ?_) (fun b z => ?_) fun _ => hk
    · by_cases hb : b = a
      · exact .inr ⟨_, _, if_pos hb⟩
      · exact .inl (if_neg hb)
    · by_cases hb : b = a
      · have z' := (if_pos hb).symm.trans z
        cases z'
        subst hb
        exact ⟨ha, by rw [List.length_map]; exact hl, vs, _, rv, ha⟩
      · have z' := (if_neg hb).symm.trans z
        cases z'
    · by_cases hb : b = a
      · exact hb
      · exact absurd (if_neg hb) z
end L2

namespace L2
open PySem PySem.Spec PyProof.Rows

abbrev KOf {K : PySem.W.Frag} {h : Heap} (_ : K.In h) : PySem.W.Frag := K

/-- the goal that k_head leaves (case hc), from the law's promise. F gives the function object fd (K's own) once, then the promise over every base -/
theorem walk_of {l : PySem.W.OpenLaw} {n k : Nat} {q : Program} {loose : List Str} {XP : (Str → Option Value) → Heap → Prop} {YP : World → Heap → Prop} {d : DefRec} {K : Params → PySem.W.Frag} {CX : World → CXT} {sp : World → Sp} {x : Str}
    (hn : l.most = some n) (hn2 : n ≤ sizeLine) (hdf : d.params.defaults = []) (hr : Room k callerA)
    (hY : ∀ (w : World) (h : Heap), YP w h → (K w.params).In h)
    (F : ∀ (w : World) (mg : Str → Option Value) (fa : Addr) (h : Heap), (K w.params).In h → h.Ns mainGlobals mg → mg d.name = some (.ref fa) →
      ∃ fd : FuncData, (∀ (s : Shared) (u : Value), BindsTo s fd ⟨[u], []⟩ [(x, u)]) ∧
        ∀ base : Heap, (K w.params).In base → base.Ns mainGlobals mg → FnOk l.prog w (K w.params) mg base (CX w) k fa fd [x] (sp w))
    (hsp : ∀ (w : World) (H : Hp) (a : Addr) (ns : List Int), ns.length ≤ n → Only H → SqL (K w.params) H a (ns.map V.int) → sp w [.ref a] H (fun v _ => v = .bl true) fun _ _ _ => False)
    (hCX : ∀ (w : World) (H : Hp) (s : Shared) (e : Value) (s' : Shared), CX w [] H s (fun _ _ _ => False) e s' → False) :
    PySem.W.WalkO q loose XP YP l.row.toRowW d [] (fun f vs => PySem.call f vs) := by
  refine Att.attach_call hn hdf fun w s₀ s₁ mg mb fa o pm cd doc a vs ns G Y ho hd hcd hmg hobj hints hlen hg => ?_
  have KX := hY w _ Y
  obtain ⟨fd, hb, hF⟩ := F w mg fa _ KX G.T.g hmg
  exact law_call KX G.T.g G.T.b G.T.builtins G.T.nolimit hg hobj hints (Nat.le_trans hlen hn2) hr hF hb (fun H hO hS => hsp w H a ns hlen hO hS) fun H e s' => hCX w H s₁ e s'
end L2

/- THE LAST THEOREM (shape; LID, My.* are yours):
   My.Adr: a structure of the addresses that your layer names (classes, functions); My.Txt K t: a structure (Prop) of the equations over K;
   My.txt_mk : {K} {implicit addresses ..} (e1 : nsIn K mainGlobals "law" = some (some (.ref f))) (e2 : K.lookup f = some ⟨oc, od, .func (fnOf "law" "law" params body scope dV kV doc pm an cdv ct), sl⟩) (e3 : codeIn K cdv "law" = true) .. : ∃ t, My.Txt K t

set_option maxRecDepth 100000 in
set_option maxHeartbeats 0 in
theorem PySem.Challenge.cw_LID_holds : PySem.Challenge.rw_LID.Holds := by
  w_on; o_law; k_head; (case hw => w_witness2)
  k_fill
  refine L2.walk_of (l := PySem.Challenge.rw_LID) (n := 63) (k := 40) (x := "script") (CX := fun w => ..) (sp := fun _ => My.sp_law) rfl (by decide) rfl ⟨rfl, by decide, by decide⟩ (fun w h Y => PySem.W.kIn_of Y) ?F ?S ?C
  case F =>
    intro w mg fa h KX G hmg
    have T : ∃ t, My.Txt (L2.KOf KX) t := by
      dsimp only [L2.KOf]                          -- K must stand as «<heap const> w.params» for k_is
      refine' My.txt_mk ?e1 ?e2 ?e3 ..
      (case e1 => PySem.W.k_is)                    -- in the order: a name -> its address -> its object -> its parts
      (case e2 => PySem.W.k_is)
      ..
    obtain ⟨t, T⟩ := T
    have e0 := hmg.symm.trans (PySem.W.mg_of KX G T.law)
    cases e0                                       -- fa is the law's own address
    exact ⟨_, fun s u => .of_eq rfl, fun base kb nb => My.law_fn T kb nb⟩     -- if «.of_eq rfl» comes too early: refine' ⟨_, ?b, fun base kb nb => My.law_fn T kb nb⟩; exact fun s u => .of_eq rfl
  case S => exact fun w H a ns hl hO hS => ..
  case C => exact ..
(the tactic k_is has no namespace: write k_is) -/

/-! SHORT WORDS over the layer: a def of the text, its body, what a loop and a test want. -/
namespace L2
open PySem PySem.Spec PyProof.Rows

/-! ### the text by places -/
/-- the j-th statement of a class's body -/
def inClass (s : Stmt) (j : Nat) : Stmt := match s with
  | .ClassDef _ _ _ body _ _ _ _ _ _ _ => body.getD j (.Pass ⟨0, 0, 0, 0⟩)
  | _ => .Pass ⟨0, 0, 0, 0⟩
def defArgs (s : Stmt) : Arguments := match s with
  | .FunctionDef _ a _ _ _ _ _ _ _ _ => a
  | _ => { posonlyargs := [], args := [], vararg := none, kwonlyargs := [], kw_defaults := [], kwarg := none, defaults := [] }
def defBody (s : Stmt) : List Stmt := match s with
  | .FunctionDef _ _ b _ _ _ _ _ _ _ => b
  | _ => []
def defScope (s : Stmt) : Scope := match s with
  | .FunctionDef _ _ _ _ _ _ sc _ _ _ => sc
  | _ => { kind := .function, names := [], isGenerator := false, isCoroutine := false }

/-! ### no exception leaves a def -/
abbrev CX0 : CXT := fun _ _ _ _ _ _ => False
abbrev E0 : XK := fun _ _ _ => False
theorem pass0 {X : Cx} : Passes CX0 X E0 := fun _ _ _ _ _ _ _ h => h.elim

/-! ### a def (or method) of the text as it stands behind the top -/
structure Fun (K : PySem.W.Frag) (x qual : Str) (st : Stmt) (f : Addr) (fd : FuncData) : Prop where
  ex : ∃ (oc : Value) (od : Option Addr) (kV doc pm : Value) (an : Option Addr) (cdv ct : Value) (osl : Array (Option Value)),
    fd = PySem.W.fnOf x qual (defArgs st) (defBody st) (defScope st) .none kV doc pm an cdv ct ∧ K.lookup f = some ⟨oc, od, .func fd, osl⟩ ∧ PySem.W.codeIn K cdv qual = true
  kp : PySem.W.keepIn K (.ref f) = true
section
variable {P : Program} {w : World} {K : PySem.W.Frag} {mg : Str → Option Value} {base : Heap}
/-- THE RULE for a def: its body as a term of rules, and the reading of that term -/
theorem Fun.ok {x qual : Str} {st : Stmt} {f : Addr} {fd : FuncData} {N ps : List Str} {k : Nat} {sp : Sp} (F : Fun K x qual st f fd) (S : FnScope N ps (defScope st)) (len : ∀ vs H Q E, sp vs H Q E → vs.length = ps.length)
    (hbody : ∀ (cdv : Value) (A : Around) (outer : List Env) (s : Shared) (H : Hp) (vs : List V) (Q : VK) (E : XK), Room k (A.deeper (envOfC qual (defScope st) s.heap.objs.size f cdv)) → sp vs H Q E →
      ∃ t, PSs (cxOf CX0 P w K mg base N qual (defScope st) f cdv A outer s H E).nox (defBody st) t ∧ t { nx := fun _ H' => Q .non H', rt := Q } (start N vs) H) : FnOk P w K mg base CX0 (k + 1) f fd ps sp := by
  obtain ⟨oc, od, kV, doc, pm, an, cdv, ct, osl, rfl, lk, hcd⟩ := F.ex
  refine fn_of lk hcd S len fun A outer s H vs Q E hr hsp => ?_
  obtain ⟨t, h, q⟩ := hbody cdv A outer s H vs Q E hr hsp
  exact ⟨t, h.nox, q⟩
/-- how its arguments bind (no defaults): h is «fun _ _ _ _ _ _ us hl => match us, hl with | [_, _], _ => rfl», one _ a parameter -/
theorem Fun.binds {x qual : Str} {st : Stmt} {f : Addr} {fd : FuncData} {ps : List Str} (F : Fun K x qual st f fd)
    (h : ∀ (kV doc pm : Value) (an : Option Addr) (cdv ct : Value) (us : List Value), us.length = ps.length → bindArgs (PySem.W.fnOf x qual (defArgs st) (defBody st) (defScope st) .none kV doc pm an cdv ct) ⟨us, []⟩ = pure (ps.zip us)) : Binds K fd ps [] := by
  obtain ⟨oc, od, kV, doc, pm, an, cdv, ct, osl, rfl, lk, hcd⟩ := F.ex
  exact .all (h kV doc pm an cdv ct)
theorem fun_mk {x qual : Str} {st : Stmt} {f : Addr} {oc : Value} {od an : Option Addr} {osl : Array (Option Value)} {kV doc pm cdv ct : Value} (l : K.lookup f = some ⟨oc, od, .func (PySem.W.fnOf x qual (defArgs st) (defBody st) (defScope st) .none kV doc pm an cdv ct), osl⟩)
    (c : PySem.W.codeIn K cdv qual = true) (k : PySem.W.keepIn K (.ref f) = true) : Fun K x qual st f (PySem.W.fnOf x qual (defArgs st) (defBody st) (defScope st) .none kV doc pm an cdv ct) := ⟨⟨oc, od, kV, doc, pm, an, cdv, ct, osl, rfl, l, c⟩, k⟩
end
/-! ### expressions in short: the name that stands in the i-th slot -/
section
variable {X : Cx}
theorem pv (i : Nat) {x : Str} {pos : Pos} (hN : X.N[i]? = some x := by rfl) (hv : Vis X.env.scope x := by first | exact Or.inl rfl | exact Or.inr (Or.inl rfl) | exact Or.inr (Or.inr rfl)) (hd : (x == ("__debug__" : Str)) = false := by decide)
    (hcd : (x == ("__classdict__" : Str)) = false := by decide) : PE X (.Name x pos) (tVar i) := pe_var hN hv hd hcd
end

/-! ### tests -/
theorem iteF {A B : Prop} (h : B) : if false = true then A else B := by
  rw [if_neg Bool.false_ne_true]
  exact h
theorem iteT {A B : Prop} (h : A) : if true = true then A else B := by
  rw [if_pos rfl]
  exact h
/-! ### heaps -/
/-- all that was tracked is as it was -/
def Same (H H' : Hp) : Prop := ∀ b o, H b = some o → H' b = some o
theorem Same.refl (H : Hp) : Same H H := fun _ _ h => h
theorem Same.trans {H H1 H2 : Hp} (a : Same H H1) (b : Same H1 H2) : Same H H2 := fun c o h => b c o (a c o h)
theorem Same.free {H H' : Hp} (e : Same H H') {l : Addr} (h : H' l = Option.none) : H l = Option.none := by
  cases q : H l with
  | none => rfl
  | some o =>
    rw [e l o q] at h
    cases h
theorem Same.seq {K : PySem.W.Frag} {H H' : Hp} {a : Addr} {xs : List V} (e : Same H H') (h : SqL K H a xs) : SqL K H' a xs := by
  rcases h with (h | ⟨o, h⟩) | h
  · exact .inl (.inl (e _ _ h))
  · exact .inl (.inr ⟨o, e _ _ h⟩)
  · exact .inr h

end L2

set_option Elab.async false
set_option linter.all false
set_option maxRecDepth 100000
namespace L2
open PySem PySem.Spec PyProof.Rows

/-! ### what a value stands for, read off the abstract heap; equality at any depth -/
def PdAt (K : PySem.W.Frag) (H : Hp) : Nat → PyData → V → Prop
  | 0, d, v => match d with
    | .none => v = .non
    | .bool b => v = .bl b
    | .int i => v = .int i
    | .str x => v = .str x ∧ PyData.strOk x = true
    | _ => False
  | n + 1, d, v => match d with
    | .none => v = .non
    | .bool b => v = .bl b
    | .int i => v = .int i
    | .str x => v = .str x ∧ PyData.strOk x = true
    | .list ds => ∃ a xs, v = .ref a ∧ SqL K H a xs ∧ Paired (PdAt K H n) ds xs
    | .tuple ds => ∃ a xs, v = .ref a ∧ SqT K H a xs ∧ Paired (PdAt K H n) ds xs
    | .dict _ => False
section
variable {X : Cx} {pins : List (Addr × Obj)} {σ : St} {H : Hp} {s : Shared}
theorem pd_reads (I : Inv X pins σ H s) : ∀ (n : Nat) (d : PyData) (v : V) (u : Value), PdAt X.K H n d v → RelV v u → ∃ as, Reads s.heap u d as := by
  intro n
  induction n with
  | zero =>
    intro d v u h r
    cases d with
    | none => cases (show v = .non from h); cases (show u = Value.none from r); exact ⟨_, Reads.none⟩
    | bool b => cases (show v = .bl b from h); cases (show u = Value.bool b from r); exact ⟨_, Reads.bool b⟩
    | int i => cases (show v = .int i from h); obtain ⟨t, rfl⟩ := (show ∃ t, u = Value.int i t from r); exact ⟨_, Reads.int i t⟩
    | str x => cases (show v = .str x ∧ _ from h).1; obtain ⟨t, rfl⟩ := (show ∃ t, u = Value.str x t from r); exact ⟨_, Reads.str x t⟩
    | list _ => exact (show False from h).elim
    | tuple _ => exact (show False from h).elim
    | dict _ => exact (show False from h).elim
  | succ n ih =>
    have all : ∀ (ds : List PyData) (xs : List V) (us : List Value), Paired (PdAt X.K H n) ds xs → Vals xs us → ∃ as, ReadsAll s.heap us ds as := by
      intro ds xs us p
      induction p generalizing us with
      | nil => intro r; cases r; exact ⟨_, ReadsAll.nil⟩
      | cons q _ hi =>
        intro r
        cases r with
        | cons r1 rr =>
          obtain ⟨as, h1⟩ := ih _ _ _ q r1
          obtain ⟨bs, h2⟩ := hi _ rr
          exact ⟨_, ReadsAll.cons h1 h2⟩
    intro d v u h r
    cases d with
    | none => cases (show v = .non from h); cases (show u = Value.none from r); exact ⟨_, Reads.none⟩
    | bool b => cases (show v = .bl b from h); cases (show u = Value.bool b from r); exact ⟨_, Reads.bool b⟩
    | int i => cases (show v = .int i from h); obtain ⟨t, rfl⟩ := (show ∃ t, u = Value.int i t from r); exact ⟨_, Reads.int i t⟩
    | str x => cases (show v = .str x ∧ _ from h).1; obtain ⟨t, rfl⟩ := (show ∃ t, u = Value.str x t from r); exact ⟨_, Reads.str x t⟩
    | list ds =>
      obtain ⟨a, xs, rfl, hq, hp⟩ := (show ∃ a xs, v = .ref a ∧ SqL X.K H a xs ∧ Paired (PdAt X.K H n) ds xs from h)
      cases (show u = Value.ref a from r)
      obtain ⟨its, rv, pl, hz⟩ := I.list hq
      obtain ⟨as, ra⟩ := all _ _ _ hp rv
      obtain ⟨o, ho, hc, k, hd⟩ := pl.isList
      exact ⟨_, reads_list_at ho hc hd (by simpa using ra)⟩
    | tuple ds =>
      obtain ⟨a, xs, rfl, hq, hp⟩ := (show ∃ a xs, v = .ref a ∧ SqT X.K H a xs ∧ Paired (PdAt X.K H n) ds xs from h)
      cases (show u = Value.ref a from r)
      obtain ⟨its, rv, pl, hz⟩ := I.tuple hq
      obtain ⟨as, ra⟩ := all _ _ _ hp rv
      obtain ⟨o, ho, hc, k, hd⟩ := (show s.heap.IsTuple a its.toArray from pl)
      exact ⟨_, reads_tuple_at ho hc hd (by simpa using ra)⟩
    | dict _ => exact (show False from h).elim
end
theorem pd_shape {K : PySem.W.Frag} {H : Hp} : ∀ (n : Nat) (d : PyData) (v : V), PdAt K H n d v → d.canLay0 = true ∧ d.depth ≤ n := by
  intro n
  induction n with
  | zero =>
    intro d v h
    cases d with
    | str x => simp [PyData.canLay0, PyData.depth, (show v = .str x ∧ PyData.strOk x = true from h).2]
    | list _ => exact (show False from h).elim
    | tuple _ => exact (show False from h).elim
    | dict _ => exact (show False from h).elim
    | _ => simp [PyData.canLay0, PyData.depth]
  | succ n ih =>
    have all : ∀ (ds : List PyData) (xs : List V), Paired (PdAt K H n) ds xs → PyData.canLayAll0 ds = true ∧ PyData.depthAll ds ≤ n := by
      intro ds xs p
      induction p with
      | nil => simp [PyData.canLayAll0, PyData.depthAll]
      | cons q _ hi =>
        have h1 := ih _ _ q
        simp only [PyData.canLayAll0, PyData.depthAll, h1.1, hi.1, Bool.and_self, true_and]
        have a1 := h1.2
        have a2 := hi.2
        omega
    intro d v h
    cases d with
    | str x => simp [PyData.canLay0, PyData.depth, (show v = .str x ∧ PyData.strOk x = true from h).2]
    | list ds =>
      obtain ⟨a, xs, rfl, hq, hp⟩ := (show ∃ a xs, v = .ref a ∧ SqL K H a xs ∧ Paired (PdAt K H n) ds xs from h)
      have q := all _ _ hp
      have q2 := q.2
      simp only [PyData.canLay0, PyData.depth, q.1, true_and]
      omega
    | tuple ds =>
      obtain ⟨a, xs, rfl, hq, hp⟩ := (show ∃ a xs, v = .ref a ∧ SqT K H a xs ∧ Paired (PdAt K H n) ds xs from h)
      have q := all _ _ hp
      have q2 := q.2
      simp only [PyData.canLay0, PyData.depth, q.1, true_and]
      omega
    | dict _ => exact (show False from h).elim
    | _ => simp [PyData.canLay0, PyData.depth]
def rEqP (K : PySem.W.Frag) : R2 := fun x y H Q => ∃ d e, PdAt K H 9 d x ∧ PdAt K H 9 e y ∧ Q (.bl (PyData.eqv d e)) H
def rNeP (K : PySem.W.Frag) : R2 := fun x y H Q => ∃ d e, PdAt K H 9 d x ∧ PdAt K H 9 e y ∧ Q (.bl (!PyData.eqv d e)) H
section
variable {X : Cx}
theorem pd_shaped {K : PySem.W.Frag} {H : Hp} {d : PyData} {v : V} (h : PdAt K H 9 d v) : SeqAt.shaped d = true := by
  have q := pd_shape 9 d v h
  unfold SeqAt.shaped
  rw [q.1, Bool.true_and]
  exact decide_eq_true (Nat.le_trans q.2 (by decide))
theorem op_eqP (hu : X.A.units + 64 < cLine) : OpR X (compareOp .Eq) (rEqP X.K) := by
  intro pins s σ H x y v u Q I rx ry h
  obtain ⟨d, e, hd, he, q⟩ := h
  obtain ⟨as, ra⟩ := pd_reads I 9 d x v hd rx
  obtain ⟨bs, rb⟩ := pd_reads I 9 e y u he ry
  exact eq_dataH ra rb (pd_shaped hd) (pd_shaped he) hu ⟨.bl _, H, I, rfl, q⟩
theorem op_neP (hu : X.A.units + 64 < cLine) : OpR X (compareOp .NotEq) (rNeP X.K) := by
  intro pins s σ H x y v u Q I rx ry h
  obtain ⟨d, e, hd, he, q⟩ := h
  obtain ⟨as, ra⟩ := pd_reads I 9 d x v hd rx
  obtain ⟨bs, rb⟩ := pd_reads I 9 e y u he ry
  exact ne_dataH ra rb (pd_shaped hd) (pd_shaped he) hu ⟨.bl _, H, I, rfl, q⟩
end
abbrev iL (ns : List Int) : List V := ns.map V.int
abbrev pL (ns : List Int) : PyData := .list (ns.map PyData.int)
theorem eqvAll_ints : ∀ (xs ys : List Int), PyData.eqvAll (xs.map PyData.int) (ys.map PyData.int) = decide (xs = ys)
  | [], [] => by simp [PyData.eqvAll]
  | [], y :: ys => by simp [PyData.eqvAll]
  | x :: xs, [] => by simp [PyData.eqvAll]
  | x :: xs, y :: ys => by
    simp only [List.map_cons, PyData.eqvAll, PyData.eqv, eqvAll_ints xs ys, List.cons.injEq]
    by_cases h1 : x = y <;> by_cases h2 : xs = ys <;> simp [h1, h2]
theorem eqv_pints (xs ys : List Int) : PyData.eqv (pL xs) (pL ys) = decide (xs = ys) := by
  show PyData.eqvAll _ _ = _
  exact eqvAll_ints xs ys
theorem paired_ints {K : PySem.W.Frag} {H : Hp} {n : Nat} : ∀ ns : List Int, Paired (PdAt K H n) (ns.map PyData.int) (iL ns)
  | [] => .nil
  | i :: ns => .cons (by cases n <;> exact (rfl : V.int i = V.int i)) (paired_ints ns)
theorem pd_ints {K : PySem.W.Frag} {H : Hp} {n : Nat} {a : Addr} {ns : List Int} (h : SqL K H a (iL ns)) : PdAt K H (n + 1) (pL ns) (.ref a) := ⟨a, iL ns, rfl, h, paired_ints ns⟩
theorem pd_int {K : PySem.W.Frag} {H : Hp} {n : Nat} {i : Int} : PdAt K H n (.int i) (.int i) := by cases n <;> exact (rfl : V.int i = V.int i)
theorem pd_bl {K : PySem.W.Frag} {H : Hp} {n : Nat} {b : Bool} : PdAt K H n (.bool b) (.bl b) := by cases n <;> exact (rfl : V.bl b = V.bl b)
/-! ### intro rules -/
section
variable {K : PySem.W.Frag} {σ : St} {H : Hp} {Q : VK}
theorem i_var {i : Nat} {v : V} (h : σ[i]? = some (some v)) (q : Q v H) : tVar i σ H Q := ⟨v, h, q⟩
theorem i_I0 {g : Int → Int → V} {i j : Int} (q : Q (g i j) H) : rI0 g (.int i) (.int j) H Q := ⟨i, j, rfl, rfl, q⟩
theorem i_U {g : Int → V} {i : Int} (q : Q (g i) H) : rU g (.int i) H Q := ⟨i, rfl, q⟩
theorem beq_dec (i j : Int) : (i == j) = decide (i = j) := by
  by_cases h : i = j <;> simp [h]
theorem i_eqI {i j : Int} (q : Q (.bl (decide (i = j))) H) : rEqP K (.int i) (.int j) H Q := ⟨_, _, pd_int, pd_int, by rw [← beq_dec] at q; simpa [PyData.eqv] using q⟩
theorem i_neI {i j : Int} (q : Q (.bl (!decide (i = j))) H) : rNeP K (.int i) (.int j) H Q := ⟨_, _, pd_int, pd_int, by rw [← beq_dec] at q; simpa [PyData.eqv] using q⟩
theorem i_eqB {i j : Bool} (q : Q (.bl (decide (i = j))) H) : rEqP K (.bl i) (.bl j) H Q := ⟨_, _, pd_bl, pd_bl, by
  have e : (decide (i = j)) = (i == j) := by cases i <;> cases j <;> rfl
  rw [e] at q; simpa [PyData.eqv] using q⟩
theorem i_eqL {a b : Addr} {xs ys : List Int} (ha : SqL K H a (iL xs)) (hb : SqL K H b (iL ys)) (q : Q (.bl (decide (xs = ys))) H) : rEqP K (.ref a) (.ref b) H Q := ⟨_, _, pd_ints ha, pd_ints hb, by rw [eqv_pints]; exact q⟩
end

/-! ### + and * of more kinds, an item -/
def rAddP : R2 := fun x y H Q => rI0 (fun i j => .int (i + j)) x y H Q ∨ rCat x y H Q
def rIxP (K : PySem.W.Frag) : R2 := fun x y H Q => rIxL K x y H Q ∨ rIxT K x y H Q
def rMulP : R2 := fun x y H Q => rI CMul (fun i j => .int (i * j)) x y H Q ∨ rRep x y H Q
section
variable {X : Cx}
theorem op_addP : OpR X (binaryOp .Add) rAddP := op_add.or op_cat
theorem op_mulP : OpR X (binaryOp .Mult) rMulP := op_mul.or op_rep
theorem ix_P : IxR X (rIxP X.K) := ix_list.or ix_tup
end
section
variable {K : PySem.W.Frag} {σ : St} {H : Hp} {Q : VK}
theorem i_addI {i j : Int} (q : Q (.int (i + j)) H) : rAddP (.int i) (.int j) H Q := .inl ⟨i, j, rfl, rfl, q⟩
theorem i_addL {a b : Addr} {xs ys : List V} (ha : H a = some (.lst xs)) (hb : H b = some (.lst ys)) (hl : xs.length + ys.length ≤ sizeLine) (q : ∀ p, H p = none → Q (.ref p) (upd H p (.lst (xs ++ ys)))) : rAddP (.ref a) (.ref b) H Q := .inr ⟨a, b, xs, ys, rfl, rfl, ha, hb, hl, q⟩
theorem i_mulI {i j : Int} (c : CMul i j) (q : Q (.int (i * j)) H) : rMulP (.int i) (.int j) H Q := .inl ⟨i, j, rfl, rfl, c, q⟩
theorem atI_ints {ns : List Int} {i : Int} (h0 : 0 ≤ i) (h1 : i < ns.length) : ∃ v, atI (iL ns) i = some (.int v) ∧ ns[i.toNat]? = some v ∧ v ∈ ns := by
  have hl : i.toNat < ns.length := by omega
  refine ⟨ns[i.toNat], ?_, by simp [hl], List.getElem_mem hl⟩
  have := atI_nat (xs := iL ns) (j := i.toNat) (v := .int ns[i.toNat]) (by simp [iL, hl])
  rwa [Int.toNat_of_nonneg h0] at this
/-- an item of a list of iL, in bounds -/
theorem i_ixL {p : Addr} {ns : List Int} {i : Int} (h : SqL K H p (iL ns)) (h0 : 0 ≤ i) (h1 : i < ns.length) (q : ∀ v, ns[i.toNat]? = some v → v ∈ ns → Q (.int v) H) : rIxP K (.ref p) (.int i) H Q := by
  obtain ⟨v, e1, e2, e3⟩ := atI_ints h0 h1
  exact .inl ⟨p, _, i, _, rfl, rfl, h, e1, q v e2 e3⟩
/-- an item of any list, at a place from the front -/
theorem i_ixN {p : Addr} {xs : List V} {i : Int} {v : V} (h : SqL K H p xs) (h0 : 0 ≤ i) (e : xs[i.toNat]? = some v) (q : Q v H) : rIxP K (.ref p) (.int i) H Q := by
  have := atI_nat (xs := xs) (j := i.toNat) (v := v) e
  rw [Int.toNat_of_nonneg h0] at this
  exact .inl ⟨p, _, i, _, rfl, rfl, h, this, q⟩
theorem i_ixT {p : Addr} {xs : List V} {i : Int} {v : V} (h : SqT K H p xs) (h0 : 0 ≤ i) (e : xs[i.toNat]? = some v) (q : Q v H) : rIxP K (.ref p) (.int i) H Q := by
  have := atI_nat (xs := xs) (j := i.toNat) (v := v) e
  rw [Int.toNat_of_nonneg h0] at this
  exact .inr ⟨p, _, i, _, rfl, rfl, h, this, q⟩
theorem i_ixLast {p : Addr} {xs : List V} {v : V} (h : SqL K H p (xs ++ [v])) (q : Q v H) : rIxP K (.ref p) (.int (-1)) H Q := .inl ⟨p, _, _, _, rfl, rfl, h, atI_last xs v, q⟩
end

/-! ### calls of the text's own defs -/
def Callee (P : Program) (w : World) (K : PySem.W.Frag) (mg : Str → Option Value) (base : Heap) (x : Str) (k : Nat) (sp : Sp) : Prop :=
  ∃ f fd ps, FnOk P w K mg base CX0 k f fd ps sp ∧ mg x = some (.ref f) ∧ PySem.W.keepIn K (.ref f) = true ∧ Binds K fd ps []
def Def (K : PySem.W.Frag) (mg : Str → Option Value) (x : Str) (st : Stmt) : Prop := ∃ f fd, Fun K x x st f fd ∧ mg x = some (.ref f)
section
variable {X : Cx} {x : Str} {k : Nat} {sp : Sp} {e : Expr} {es : List Expr} {t : TA} {p pos : Pos}
theorem pe_callN (C : Callee X.prog X.w X.K X.mg X.base x k sp) (hr : Room k X.A) (hg : Gl X x) (ha : PA X (e :: es) t)
    (he : starEach (e :: es) X.env = (false, eval e X.env) :: starEach es X.env := by rfl) (hpl : (backTo pos (starEach es X.env)).any (·.1) = false := by rfl)
    (hdb : (x == ("__debug__" : Str)) = false := by decide) : PE X (.Call (.Name x p) (e :: es) [] pos) (tCall sp [] E0 t) := by
  obtain ⟨f, fd, ps, F, hm, hk, hb⟩ := C
  exact pe_call F hr hg hm hk hb .nil pass0 ha (hdb := hdb) (he := he) (hpl := hpl)
def rTru (K : PySem.W.Frag) (x : V) (H : Hp) (Q : Bool → Hp → Prop) : Prop := ∃ k, TruV K x H k ∧ Q k H
def tTru (K : PySem.W.Frag) (ta : TE) : TT := fun σ H Q => ta σ H fun x H' => rTru K x H' Q
theorem pt_truthN {a : Expr} {ta : TE} (ha : PE X a ta) (he : ∀ whole, isTrue a X.env whole = (do let v ← whole; standAt a.pos; holding [v] (truthy v))) :
    PT X a (tTru X.K ta) := pt_truth ha he
end
theorem Def.ok {P : Program} {w : World} {K : PySem.W.Frag} {mg : Str → Option Value} {base : Heap} {x : Str} {st : Stmt} {N ps : List Str} {k : Nat} {sp : Sp} (D : Def K mg x st) (S : FnScope N ps (defScope st))
    (bd : ∀ (kV doc pm : Value) (an : Option Addr) (cdv ct : Value) (us : List Value), us.length = ps.length → bindArgs (PySem.W.fnOf x x (defArgs st) (defBody st) (defScope st) .none kV doc pm an cdv ct) ⟨us, []⟩ = pure (ps.zip us))
    (len : ∀ vs H Q E, sp vs H Q E → vs.length = ps.length)
    (hbody : ∀ (f : Addr) (cdv : Value) (A : Around) (outer : List Env) (s : Shared) (H : Hp) (vs : List V) (Q : VK) (E : XK), Room k (A.deeper (envOfC x (defScope st) s.heap.objs.size f cdv)) → sp vs H Q E →
      ∃ t, PSs (cxOf CX0 P w K mg base N x (defScope st) f cdv A outer s H E).nox (defBody st) t ∧ t { nx := fun _ H' => Q .non H', rt := Q } (start N vs) H) : Callee P w K mg base x (k + 1) sp := by
  obtain ⟨f, fd, F, hm⟩ := D
  exact ⟨f, fd, ps, F.ok S len fun cdv A outer s H vs Q E hr h => hbody f cdv A outer s H vs Q E hr h, hm, F.kp, F.binds bd⟩

/-! ### built-ins -/
def rLen (K : PySem.W.Frag) : List V → Hp → VK → Prop := fun xs H Q => ∃ x n, xs = [x] ∧ LenV K x H n ∧ Q (.int n) H
def rIsi (K : PySem.W.Frag) : List V → Hp → VK → Prop := fun xs H Q => ∃ x t n b, xs = [x, .ty n] ∧ TyOf K H x t ∧ PySem.W.kitOne K t (.type n) = some b ∧ Q (.bl b) H
def rIntOf : List V → Hp → VK → Prop := fun xs H Q => (∃ i, xs = [.int i] ∧ Q (.int i) H) ∨ ∃ k, xs = [.bl k] ∧ Q (.int (if k then 1 else 0)) H
def rAbs : List V → Hp → VK → Prop := fun xs H Q => ∃ i, xs = [.int i] ∧ Q (.int (if i < 0 then -i else i)) H
def rListOf (K : PySem.W.Frag) : List V → Hp → VK → Prop := fun xs H Q => ∃ p ys, xs = [.ref p] ∧ (SqL K H p ys ∨ SqT K H p ys) ∧ ∀ l, H l = none → Q (.ref l) (upd H l (.lst ys))
section
variable {X : Cx}
theorem call_lenN : CallR X (.builtin "len") (rLen X.K) := call_len
theorem call_intN : CallR X (.type "int") rIntOf := call_int1
theorem call_absN : CallR X (.builtin "abs") rAbs := call_abs
end
section
variable {K : PySem.W.Frag} {σ : St} {H : Hp} {Q : VK}
theorem i_lenI {p : Addr} {ns : List Int} (h : SqL K H p (iL ns)) (q : Q (.int ns.length) H) : rLen K [.ref p] H Q := ⟨_, _, rfl, .inl ⟨_, h, rfl⟩, by simpa [iL] using q⟩
theorem i_intB {k : Bool} (q : Q (.int (if k then 1 else 0)) H) : rIntOf [.bl k] H Q := .inr ⟨k, rfl, q⟩
theorem i_abs {i : Int} (q : Q (.int (if i < 0 then -i else i)) H) : rAbs [.int i] H Q := ⟨i, rfl, q⟩
theorem isi_ii : PySem.W.kitOne K (.type "int") (.type "int") = some true := by kernel_rfl
theorem isi_ib : PySem.W.kitOne K (.type "int") (.type "bool") = some false := by kernel_rfl
theorem isi_ll : PySem.W.kitOne K (.type "list") (.type "list") = some true := by kernel_rfl
theorem isi_il : PySem.W.kitOne K (.type "int") (.type "list") = some false := by kernel_rfl
theorem isi_id : PySem.W.kitOne K (.type "int") (.type "dict") = some false := by kernel_rfl
theorem isi_it : PySem.W.kitOne K (.type "int") (.type "tuple") = some false := by kernel_rfl
theorem isi_bb : PySem.W.kitOne K (.type "bool") (.type "bool") = some true := by kernel_rfl
theorem i_isiII {i : Int} (q : Q (.bl true) H) : rIsi K [.int i, .ty "int"] H Q := ⟨_, _, _, true, rfl, .int i, isi_ii, q⟩
theorem i_isiIB {i : Int} (q : Q (.bl false) H) : rIsi K [.int i, .ty "bool"] H Q := ⟨_, _, _, false, rfl, .int i, isi_ib, q⟩
theorem i_isiIL {i : Int} (q : Q (.bl false) H) : rIsi K [.int i, .ty "list"] H Q := ⟨_, _, _, false, rfl, .int i, isi_il, q⟩
theorem i_isiID {i : Int} (q : Q (.bl false) H) : rIsi K [.int i, .ty "dict"] H Q := ⟨_, _, _, false, rfl, .int i, isi_id, q⟩
theorem i_isiIT {i : Int} (q : Q (.bl false) H) : rIsi K [.int i, .ty "tuple"] H Q := ⟨_, _, _, false, rfl, .int i, isi_it, q⟩
theorem i_isiBB {b : Bool} (q : Q (.bl true) H) : rIsi K [.bl b, .ty "bool"] H Q := ⟨_, _, _, true, rfl, .bl b, isi_bb, q⟩
end

/-! ### tests, sizes -/
theorem i_if {p : Prop} [Decidable p] {A B : Prop} (h1 : p → A) (h2 : ¬ p → B) : if decide p = true then A else B := by
  by_cases h : p
  · rw [decide_eq_true h]; exact iteT (h1 h)
  · rw [decide_eq_false h]; exact iteF (h2 h)
theorem i_ifn {p : Prop} [Decidable p] {A B : Prop} (h1 : ¬ p → A) (h2 : p → B) : if (!decide p) = true then A else B := by
  by_cases h : p
  · rw [decide_eq_true h]; exact iteF (h2 h)
  · rw [decide_eq_false h]; exact iteT (h1 h)
theorem i_ifb {b : Bool} {A B : Prop} (h1 : b = true → A) (h2 : b = false → B) : if b = true then A else B := by
  cases b
  · exact iteF (h2 rfl)
  · exact iteT (h1 rfl)
theorem iteNT {A B : Prop} (h : B) : if (!true) = true then A else B := iteF h
theorem iteNF {A B : Prop} (h : A) : if (!false) = true then A else B := iteT h
theorem szl {n : Nat} (h : n ≤ 100000) : n ≤ sizeLine := Nat.le_trans h (by rw [sizeLine_eq]; decide)
theorem szlt {n : Nat} (h : n ≤ 100000) : n < sizeLine := Nat.lt_of_le_of_lt h (by rw [sizeLine_eq]; decide)
theorem same_upd {H : Hp} {l : Addr} {o : HO} (h : H l = none) : Same H (upd H l o) := fun b u e => by rw [upd_ne (ne_of_none e h)]; exact e
/-- all but one address as it was -/
def SameBut (l : Addr) (H H' : Hp) : Prop := ∀ b o, b ≠ l → H b = some o → H' b = some o
theorem cmul_l {i j : Int} (h1 : -(2 ^ 64) < i) (h2 : i < 2 ^ 64) : CMul i j := .inl ⟨h1, h2⟩
theorem cmul_r {i j : Int} (h1 : -(2 ^ 64) < j) (h2 : j < 2 ^ 64) : CMul i j := .inr ⟨h1, h2⟩
end L2

namespace L2
open PySem PySem.Spec PyProof.Rows
theorem bt_int : bootBuiltins "int" = some (.type "int") := by first | exact PySem.boot_int | exact PySem.Pv.boot_int | exact PyProof.Rows.boot_int
theorem bt_min : bootBuiltins "min" = some (.builtin "min") := by first | exact PySem.boot_min | exact PySem.Pv.boot_min | exact PyProof.Rows.boot_min
theorem bt_max : bootBuiltins "max" = some (.builtin "max") := by first | exact PySem.boot_max | exact PySem.Pv.boot_max | exact PyProof.Rows.boot_max
theorem bt_sum : bootBuiltins "sum" = some (.builtin "sum") := by first | exact PySem.boot_sum | exact PySem.Pv.boot_sum | exact PyProof.Rows.boot_sum
theorem bt_abs : bootBuiltins "abs" = some (.builtin "abs") := by first | exact PySem.boot_abs | exact PySem.Pv.boot_abs | exact PyProof.Rows.boot_abs
theorem bt_len : bootBuiltins "len" = some (.builtin "len") := by first | exact PySem.boot_len | exact PySem.Pv.boot_len | exact PyProof.Rows.boot_len
section
variable {X : Cx} {pos p1 p2 : Pos} {k1 k2 : Nat}
theorem pe_powK {i j r : Int} (h : 0 ≤ j ∧ j ≤ 1000000 ∧ i.natAbs < 2 ^ 64 ∧ i ^ j.toNat = r) : PE X (.BinOp (.Constant (.int i) k1 p1) .Pow (.Constant (.int j) k2 p2) pos) (tC (.int r)) := by
  intro pins s σ H Q I q
  refine pe_op op_pow pe_int pe_int pins s σ H Q I ?_
  exact ⟨i, j, rfl, rfl, ⟨h.1, h.2.1, h.2.2.1⟩, by have e := h.2.2.2; subst e; exact q⟩
theorem pe_negK {i r : Int} (h : -i = r) : PE X (.UnaryOp .USub (.Constant (.int i) k1 p1) pos) (tC (.int r)) := by
  intro pins s σ H Q I q
  refine pe_un un_neg pe_int pins s σ H Q I ?_
  exact ⟨i, rfl, by subst h; exact q⟩
end
section
variable {K : PySem.W.Frag} {σ : St} {H : Hp} {Q : VK} {i j : Int}
theorem i_div (h0 : 0 < j) (h1 : j < 1073741824) (q : Q (.int (i / j)) H) : rI CDiv (fun i j => .int (i / j)) (.int i) (.int j) H Q := ⟨i, j, rfl, rfl, ⟨h0, h1⟩, q⟩
theorem i_mod (h0 : 0 < j) (q : Q (.int (i % j)) H) : rI (fun _ j => 0 < j) (fun i j => .int (i % j)) (.int i) (.int j) H Q := ⟨i, j, rfl, rfl, h0, q⟩
theorem i_app {l : Addr} {xs : List V} {y : V} (h : H l = some (.lst xs)) (hl : xs.length < sizeLine) (q : Q .non (upd H l (.lst (xs ++ [y])))) : rAppend (.ref l) [y] H Q := ⟨l, xs, y, rfl, rfl, h, hl, q⟩
end
end L2

namespace L2
open PySem PySem.Spec PyProof.Rows
/-! ### loops, kept folded -/
def LoopI (J : It) (g : TG) (tb : TS) (D : Ends) (σ : St) (H1 : Hp) : Prop := ∃ W : Nat → Nat → St → Hp → Prop, (∃ m, W 0 m σ H1) ∧ ∀ i m σ H, W i m σ H →
  (J.stop i H ∧ D.nx σ H) ∨ (J.go i H ∧ ∃ N : St → Hp → Prop, (∀ σ' H', N σ' H' → ∃ m', m' < m ∧ W (i + 1) m' σ' H') ∧ ∀ x H', J.yld i H x H' → g x σ H' fun σ2 H2 => tb { D with nx := N, ct := N, bk := D.nx } σ2 H2)
theorem tFor_eq (wi : TI) (g : TG) (tb : TS) : tFor wi g tb = fun D σ H => wi σ H fun J H1 => LoopI J g tb D σ H1 := rfl
theorem lp_ints {K : PySem.W.Frag} {a : Addr} {ns : List Int} {g : TG} {tb : TS} {D : Ends} {σ : St} {H : Hp} (Pv : Nat → St → Hp → Prop) (h0 : Pv 0 σ H) (hl : ∀ i σ H, i ≤ ns.length → Pv i σ H → SqL K H a (iL ns))
    (hs : ∀ i x σ H, ns[i]? = some x → Pv i σ H → g (.int x) σ H fun σ2 H2 => tb { D with nx := Pv (i + 1), ct := Pv (i + 1), bk := D.nx } σ2 H2) (hd : ∀ σ H, Pv ns.length σ H → D.nx σ H) : LoopI (Itl K a) g tb D σ H := by
  have e : (iL ns).length = ns.length := by simp [iL]
  refine for_list (xs := iL ns) Pv h0 (fun i σ H h p => hl i σ H (by rw [e] at h; exact h) p) (fun i x σ H hx p => ?_) (fun σ H p => hd σ H (by rw [e] at p; exact p))
  rw [List.getElem?_map] at hx
  cases q : ns[i]? with
  | none => rw [q] at hx; cases hx
  | some z =>
    rw [q] at hx
    cases hx
    exact hs i z σ H q p
theorem lp_range {lo : Int} {n : Nat} {g : TG} {tb : TS} {D : Ends} {σ : St} {H : Hp} (Pv : Nat → St → Hp → Prop) (h0 : Pv 0 σ H)
    (hs : ∀ i σ H, i < n → Pv i σ H → g (.int (lo + i)) σ H fun σ2 H2 => tb { D with nx := Pv (i + 1), ct := Pv (i + 1), bk := D.nx } σ2 H2) (hd : ∀ σ H, Pv n σ H → D.nx σ H) : LoopI (Itr lo n) g tb D σ H := for_range Pv h0 hs hd
theorem i_truB {K : PySem.W.Frag} {b : Bool} {H : Hp} {Q : Bool → Hp → Prop} (q : Q b H) : rTru K (.bl b) H Q := ⟨b, rfl, q⟩
theorem i_truL {K : PySem.W.Frag} {p : Addr} {xs : List V} {H : Hp} {Q : Bool → Hp → Prop} (h : SqL K H p xs) (q : Q (!xs.isEmpty) H) : rTru K (.ref p) H Q := ⟨_, .inl ⟨xs, h, rfl⟩, q⟩
end L2

namespace L2
open PySem PySem.Spec PyProof.Rows
/-! ### [a, b, ..][i]: the list is not tracked -/
def rMenu (xs : List V) (y : V) (H : Hp) (Q : VK) : Prop := ∃ i v, y = .int i ∧ atI xs i = some v ∧ Q v H
def tMenu (t : TA) (ti : TE) : TE := fun σ H Q => t σ H fun xs H1 => xs.length ≤ sizeLine ∧ ti σ H1 fun y H2 => rMenu xs y H2 Q
section
variable {X : Cx} {es : List Expr} {b : Expr} {t : TA} {tb : TE} {p1 pos : Pos}
theorem item_raw {X : Cx} {value slice : Expr} {pins : List (Addr × Obj)} {s : Shared} {σ : St} {H : Hp} {p : Addr} {its : List Value} {xs : List V} {i : Int} {tk : Tok} {z : V} {Q : VK} (I : Inv X pins σ H s) (r : Vals xs its) (hz : xs.length ≤ sizeLine)
    (pl : s.heap.IsList p its.toArray) (he : atI xs i = some z) (q : Q z H) (hs : subscripted slice false (.ref p) (.int i tk) = operate [.ref p, .int i tk] (getItem (.ref p) (.int i tk))) :
    wpAny (model X.prog X.w) X.A (subscriptTail value slice (.ref p) (.int i tk)) (EP X pins σ Q) X.xe s := by
  obtain ⟨j, h1, h2, h3, h4, h5⟩ := atI_get he
  obtain ⟨w, ew, rw'⟩ := r.get h2
  have hl := r.length
  have hn := line63
  have fin : EP X pins σ Q w s := ⟨z, H, I, rw', q⟩
  by_cases h0 : 0 ≤ i
  · have hj : i.toNat = j := by
      rw [seqIndex_of h0 h5] at h1
      exact Option.some.inj h1
    exact item_listR pl h0 (by omega) (by rw [hj]; simpa using ew) fin hs
  · have hj : (i + (its.toArray.size : Int)).toNat = j := by
      rw [seqIndex_neg (by omega) h4] at h1
      rw [List.size_toArray, ← hl]
      exact Option.some.inj h1
    exact subscriptTail_builtinR (x := w) pl.typeIs slot_list_getitem.lookup
      (wpAny_getItem_list_neg (Q := fun r s' => r = w ∧ EP X pins σ Q r s') pl (by omega) (by rw [List.size_toArray] <;> omega) (by omega) (by rw [hj]; simpa using ew) ⟨rfl, fin⟩) hs
theorem pe_menu (h : PA X es t) (hb : PE X b tb) (hs : PlainIx b) : PE X (.Subscript (.List es p1) b pos) (tMenu t tb) := by
  intro pins s σ H Q I hq
  refine Subscript_ (wpAny_List_spliced (thn (h p1 pins s σ H _ I hq) fun us s1 ⟨xs, H1, I1, r, z, q⟩ => ⟨by rw [← r.length]; exact z, ?_⟩))
  have hf : H1 s1.heap.objs.size = none := I1.hok.fresh (Nat.le_refl _)
  have I2 := I1.kept (t' := s1.toks) (h' := s1.heap.push { cls := .type "list", data := .seq us.toArray 0 }) (fun b u e => Heap.get?_push_of_some _ e)
  have I3 := I2.pins_of (pins' := pins ++ [(s1.heap.objs.size, { cls := .type "list", data := .seq us.toArray 0 })]) (fun p hp => by
    rcases List.mem_append.mp hp with hp | hp
    · exact I2.pin p (List.mem_append_right _ hp)
    · have e : p = (s1.heap.objs.size, ({ cls := .type "list", data := .seq us.toArray 0 } : Obj)) := by simpa using hp
      subst e
      refine ⟨Heap.get?_push_size _ rfl, hf, Nat.ne_of_gt I1.lt, I1.nofs (Nat.le_refl _), fun v e => ?_⟩
      have e' : Data.seq us.toArray 0 = Data.cell v := e
      cases e')
  refine thn (hb _ _ σ H1 _ I3 q) fun u s2 ⟨y, H2, I4, r4, i, v, hy, hv, qq⟩ => ?_
  subst hy
  obtain ⟨tk, rfl⟩ := r4
  have pn := (I4.pin (s1.heap.objs.size, { cls := .type "list", data := .seq us.toArray 0 }) (by simp)).1
  exact item_raw I4.unpinned r z ⟨_, pn, rfl, _, rfl⟩ hv qq (hs _ _)
end
section
variable {H : Hp} {Q : VK} {i : Int}
theorem i_menu2 {xa xb : Int} (h0 : 0 ≤ i) (h1 : i < 2) (q : ∀ z, (i = 0 ∧ z = xa) ∨ (i = 1 ∧ z = xb) → Q (.int z) H) : rMenu [.int xa, .int xb] (.int i) H Q := by
  have hi : i = 0 ∨ i = 1 := by omega
  rcases hi with h | h
  · subst h; exact ⟨0, _, rfl, rfl, q _ (by simp)⟩
  · subst h; exact ⟨1, _, rfl, rfl, q _ (by simp)⟩
theorem i_menu3 {xa xb xc : Int} (h0 : 0 ≤ i) (h1 : i < 3) (q : ∀ z, (i = 0 ∧ z = xa) ∨ (i = 1 ∧ z = xb) ∨ (i = 2 ∧ z = xc) → Q (.int z) H) : rMenu [.int xa, .int xb, .int xc] (.int i) H Q := by
  have hi : i = 0 ∨ i = 1 ∨ i = 2 := by omega
  rcases hi with h | h | h
  · subst h; exact ⟨0, _, rfl, rfl, q _ (by simp)⟩
  · subst h; exact ⟨1, _, rfl, rfl, q _ (by simp)⟩
  · subst h; exact ⟨2, _, rfl, rfl, q _ (by simp)⟩
end
theorem cxOf_K (CX : CXT) (P : Program) (w : World) (K : PySem.W.Frag) (mg : Str → Option Value) (base : Heap) (N : List Str) (qual : Str) (scope : Scope) (f : Addr) (cd : Value) (A : Around) (outer : List Env) (s : Shared) (H : Hp) (E : XK) : (cxOf CX P w K mg base N qual scope f cd A outer s H E).K = K := rfl
end L2

namespace L2
open PySem PySem.Spec PyProof.Rows
/-! ### a statement with a word behind it: what follows is read once -/
def tJoin (t u : TS) : TS := fun D σ H => ∃ Pj : St → Hp → Prop, t { D with nx := Pj } σ H ∧ ∀ σ' H', Pj σ' H' → u D σ' H'
theorem pss_join {X : Cx} {st : Stmt} {rest : List Stmt} {t u : TS} (h1 : PS X st t) (h2 : PSs X rest u) : PSs X (st :: rest) (tJoin t u) := by
  intro pins s σ H D I h
  obtain ⟨Pj, ht, hu⟩ := h
  refine wpAny_execs_cons (thn (h1 pins s σ H _ I ht) fun f s1 q => ?_)
  cases f with
  | next =>
    obtain ⟨σ1, H1, I1, q1⟩ := q
    exact h2 pins s1 σ1 H1 D I1 (hu _ _ q1)
  | brk => exact q
  | cont => exact q
  | ret u => exact q
end L2

namespace L2
open PySem PySem.Spec PyProof.Rows
/-! ### slices of lists of ints -/
theorem take_min {α : Type} (xs : List α) (k : Nat) : xs.take (min k xs.length) = xs.take k := by
  by_cases h : k ≤ xs.length
  · rw [Nat.min_eq_left h]
  · rw [Nat.min_eq_right (by omega), List.take_of_length_le (by omega), List.take_of_length_le (by omega)]
theorem drop_min {α : Type} (xs : List α) (k : Nat) : xs.drop (min k xs.length) = xs.drop k := by
  by_cases h : k ≤ xs.length
  · rw [Nat.min_eq_left h]
  · rw [Nat.min_eq_right (by omega), List.drop_of_length_le (by omega), List.drop_of_length_le (by omega)]
theorem sIx_pos (n d : Nat) {b : Int} (h : 0 ≤ b) : HT.sIx n d (some b) = min b.toNat n := by
  have := HT.sIx_nat n d b.toNat
  rwa [Int.toNat_of_nonneg h] at this
theorem cut_to {xs : List V} {b : Int} (h : 0 ≤ b) : cutV xs none (some b) = xs.take b.toNat := by
  unfold cutV
  rw [HT.sIx_none, sIx_pos _ _ h, Nat.sub_zero, List.drop_zero, take_min]
theorem cut_from {xs : List V} {a : Int} (h : 0 ≤ a) : cutV xs (some a) none = xs.drop a.toNat := by
  unfold cutV
  rw [HT.sIx_none, sIx_pos _ _ h, drop_min, List.take_of_length_le]
  rw [List.length_drop]; omega
section
variable {K : PySem.W.Frag} {H : Hp} {Q : VK} {a : Addr} {ns : List Int}
theorem i_slTo {b : Int} (h : SqL K H a (iL ns)) (hb : 0 ≤ b) (q : ∀ p, H p = none → Q (.ref p) (upd H p (.lst (iL (ns.take b.toNat))))) : rSlL K (.ref a) none (some b) H Q :=
  ⟨a, _, rfl, h, fun p hp => by rw [cut_to hb, ← List.map_take]; exact q p hp⟩
theorem i_slFrom {b : Int} (h : SqL K H a (iL ns)) (hb : 0 ≤ b) (q : ∀ p, H p = none → Q (.ref p) (upd H p (.lst (iL (ns.drop b.toNat))))) : rSlL K (.ref a) (some b) none H Q :=
  ⟨a, _, rfl, h, fun p hp => by rw [cut_from hb, ← List.map_drop]; exact q p hp⟩
end
end L2

set_option Elab.async false
set_option linter.all false
set_option maxRecDepth 100000
namespace L2
open PySem PySem.Spec PyProof.Rows

/-! ### an untracked list of ours is tracked from now on -/
theorem Inv.track {X : Cx} {pins : List (Addr × Obj)} {σ : St} {H : Hp} {s : Shared} {D : Addr} {o : HO} (I : Inv X pins σ H s) (hn : H D = none) (hL : D ≠ X.env.locals) (h1 : X.s₀.heap.objs.size ≤ D)
    (h2 : ∀ x c, X.env.cells.lookup x = some c → c ≠ D) (h3 : ∀ p ∈ X.pn ++ pins, p.1 ≠ D) (new : ObjOk X.prog X.w (upd H D o) s.heap D o) : Inv X pins σ (upd H D o) s := by
  have up : ∀ b u, H b = some u → upd H D o b = some u := fun b u e => by rw [upd_ne (ne_of_none e hn)]; exact e
  have un : ∀ b, b ≠ D → H b = none → upd H D o b = none := fun b hb e => by rw [upd_ne hb]; exact e
  refine ⟨I.ok, I.os, I.bare, ⟨I.base.keep, I.base.slot, fun b ob e n hx => un b (Nat.ne_of_lt (Nat.lt_of_lt_of_le (Heap.lt_size e) h1)) (I.base.free b ob e n hx), I.base.there, fun b xs e => up _ _ (I.base.tups b xs e), fun b ob u e => up _ _ (I.base.frzs b ob u e), fun b ps e => ?_⟩,
    I.loc, I.cell, un _ (Ne.symm hL) I.free, fun x c e => un _ (h2 x c e) (I.freeC x c e), fun p hp => ?_, fun b u e => ?_, I.len⟩
  · obtain ⟨m, e'⟩ := I.base.tbls b ps e
    exact ⟨m, up _ _ e'⟩
  · obtain ⟨e, n, r⟩ := I.pin p hp
    exact ⟨e, un _ (h3 p hp) n, r⟩
  · by_cases hb : b = D
    · subst hb
      rw [upd_same] at e
      cases e
      exact new
    · rw [upd_ne hb] at e
      exact (I.hok b u e).stay (fun _ _ _ q => q) (fun c q => up _ _ q) fun c xs q => up _ _ q

/-! ### the closure of a comprehension's block -/
def clOf (env : Env) : List (Str × NameKind) → List (Str × Addr) → List (Str × Addr)
  | [], acc => acc
  | (n, k) :: r, acc => clOf env r (if (k == .free) = true then (n, (env.cells.lookup n).getD 0) :: acc else acc)
theorem closure_go {env : Env} : ∀ (names : List (Str × NameKind)) (acc : List (Str × Addr)), (∀ y ∈ names, y.2 = .free → ∃ c, env.cells.lookup y.1 = some c) →
    (forIn names acc fun (x : Str × NameKind) (r : List (Str × Addr)) => match x with
      | (name, kind) => if (kind == .free) = true then do
          let a ← cellOf env name
          pure (ForInStep.yield ((name, a) :: r))
        else pure (ForInStep.yield r) : Sem (List (Str × Addr))) = pure (clOf env names acc)
  | [], acc, _ => rfl
  | (n, k) :: r, acc, h => by
    rw [List.forIn_cons, clOf]
    by_cases hk : (k == NameKind.free) = true
    · obtain ⟨c, hc⟩ := h (n, k) (List.mem_cons_self) (by simpa using hk)
      have hc' : env.cells.lookup n = some c := hc
      simp only [hk, if_true, cellOf, hc', Option.getD_some]
      exact closure_go r _ fun y hy => h y (List.mem_cons_of_mem _ hy)
    · simp only [hk, Bool.false_eq_true, if_false]
      exact closure_go r _ fun y hy => h y (List.mem_cons_of_mem _ hy)
theorem closure_eq {env : Env} {scope : Scope} (h : ∀ y ∈ scope.names, y.2 = .free → ∃ c, env.cells.lookup y.1 = some c) : closureFor scope env = pure (clOf env scope.names []) := by
  have q := closure_go scope.names [] h
  unfold closureFor
  exact (congrArg (fun z => z >>= fun r => pure r) q).trans rfl
theorem clOf_get {env : Env} {x : Str} {c : Addr} : ∀ (names : List (Str × NameKind)) (acc : List (Str × Addr)), (∀ y ∈ names, y.2 = .free → ∃ c, env.cells.lookup y.1 = some c) → (∀ x c, acc.lookup x = some c → env.cells.lookup x = some c) →
    (clOf env names acc).lookup x = some c → env.cells.lookup x = some c
  | [], acc, _, ha, e => ha x c e
  | (n, k) :: r, acc, h, ha, e => by
    rw [clOf] at e
    refine clOf_get r _ (fun y hy => h y (List.mem_cons_of_mem _ hy)) ?_ e
    intro y d hd
    by_cases hk : (k == NameKind.free) = true
    · rw [if_pos hk] at hd
      obtain ⟨c', hc⟩ := h (n, k) List.mem_cons_self (by simpa using hk)
      have hc' : env.cells.lookup n = some c' := hc
      rw [List.lookup_cons] at hd
      cases hy : y == n with
      | true =>
        rw [hy] at hd
        have e1 : y = n := by simpa using hy
        subst e1
        rw [hc'] at hd ⊢
        exact hd
      | false =>
        rw [hy] at hd
        exact ha y d hd
    · rw [if_neg hk] at hd
      exact ha y d hd
theorem clOf_has {env : Env} {x : Str} : ∀ (names : List (Str × NameKind)) (acc : List (Str × Addr)), ((x, NameKind.free) ∈ names ∨ ∃ c, acc.lookup x = some c) → ∃ c, (clOf env names acc).lookup x = some c
  | [], acc, h => by
    rcases h with h | h
    · exact absurd h (by simp)
    · exact h
  | (n, k) :: r, acc, h => by
    rw [clOf]
    refine clOf_has r _ ?_
    rcases h with h | ⟨c, h⟩
    · rcases List.mem_cons.mp h with e | e
      · cases e
        exact .inr ⟨_, by rw [if_pos (by rfl), List.lookup_cons, beq_self_eq_true]⟩
      · exact .inl e
    · refine .inr ?_
      by_cases hk : (k == NameKind.free) = true
      · rw [if_pos hk, List.lookup_cons]
        cases x == n with
        | true => exact ⟨_, rfl⟩
        | false => exact ⟨c, h⟩
      · rw [if_neg hk]; exact ⟨c, h⟩
/-- what a relabelled scope says of a name -/
theorem relabel_get {scope : Scope} {env : Env} {x : Str} {k : NameKind} (h : (relabel scope env).names.lookup x = some k) : (x, k) ∈ scope.names ∨ (k = .cell ∧ (x, NameKind.free) ∈ scope.names) := by
  have m := PySem.mem_of_lookup h
  unfold relabel at m
  obtain ⟨⟨n, k0⟩, hm, e⟩ := List.mem_map.mp m
  dsimp only at e
  split at e
  · rename_i hc
    cases e
    have : k0 = .free := by
      have := (Bool.and_eq_true _ _ ▸ (Bool.and_eq_true _ _ ▸ hc).1 : _ ∧ _).1
      simpa using this
    subst this
    exact .inr ⟨rfl, hm⟩
  · cases e
    exact .inl hm

theorem relabel_freeN {env : Env} : ∀ {names : List (Str × NameKind)} {x : Str}, names.lookup x = some .free →
    (names.map fun (n, k) => if (k == NameKind.free && env.scope.kind == .function && env.kindOf n == some .cell) then (n, NameKind.cell) else (n, k)).lookup x = some .cell ∨
    (names.map fun (n, k) => if (k == NameKind.free && env.scope.kind == .function && env.kindOf n == some .cell) then (n, NameKind.cell) else (n, k)).lookup x = some .free
  | [], _, h => by simp at h
  | (n, k) :: r, x, h => by
    have ih := @relabel_freeN env r x
    show List.lookup x ((if (k == NameKind.free && env.scope.kind == .function && env.kindOf n == some .cell) = true then (n, NameKind.cell) else (n, k)) :: _) = _ ∨ List.lookup x ((if (k == NameKind.free && env.scope.kind == .function && env.kindOf n == some .cell) = true then (n, NameKind.cell) else (n, k)) :: _) = _
    cases hx : x == n with
    | true =>
      simp only [List.lookup_cons, hx] at h
      cases h
      by_cases hc : (NameKind.free == NameKind.free && env.scope.kind == .function && env.kindOf n == some .cell) = true
      · rw [if_pos hc]; left; simp [List.lookup_cons, hx]
      · rw [if_neg hc]; right; simp [List.lookup_cons, hx]
    | false =>
      simp only [List.lookup_cons, hx] at h
      by_cases hc : (k == NameKind.free && env.scope.kind == .function && env.kindOf n == some .cell) = true
      · rw [if_pos hc]; simp only [List.lookup_cons, hx]; exact ih h
      · rw [if_neg hc]; simp only [List.lookup_cons, hx]; exact ih h
theorem relabel_free {scope : Scope} {env : Env} {x : Str} (h : scope.names.lookup x = some .free) : (relabel scope env).names.lookup x = some .cell ∨ (relabel scope env).names.lookup x = some .free := relabel_freeN h

/-! ### the block's context -/
def cxC (X : Cx) (scope : Scope) (C : Addr) (N : List Str) (s₂ : Shared) (H₂ : Hp) (ex : List Addr) : Cx :=
  { X with N := N, s₀ := s₂, H₀ := H₂, env := compEnvC scope (clOf X.env scope.names []) C X.env, outer := X.stack, stack := X.stack, ex := ex, fn := fun _ => false, pn := [], xe := fun _ _ => False }
/-- the names: a slot of the def's for each that is free in the block -/
def FrOk (X : Cx) (scope : Scope) : List Str → List (Option Nat) → Prop
  | [], [] => True
  | _ :: N, none :: fr => FrOk X scope N fr
  | x :: N, some j :: fr => (X.N[j]? = some x ∧ (X.env.kindOf x = some .cell ∨ X.env.kindOf x = some .free) ∧ scope.names.lookup x = some .free) ∧ FrOk X scope N fr
  | _, _ => False
def stC (fr : List (Option Nat)) (σ : St) : St := fr.map fun o => o.bind fun j => (σ[j]?).join
structure CompOk (X : Cx) (scope : Scope) (N : List Str) (fr : List (Option Nat)) : Prop where
  kind : scope.kind = .function
  ncell : ∀ y ∈ scope.names, y.2 ≠ .cell
  names : ∀ y ∈ scope.names, y.2 = .local → scope.names.lookup y.1 = some .local
  frees : ∀ y ∈ scope.names, y.2 = .free → X.env.kindOf y.1 = some .cell ∨ X.env.kindOf y.1 = some .free
  fr : FrOk X scope N fr
theorem FrOk.len {X : Cx} {scope : Scope} : ∀ {N : List Str} {fr : List (Option Nat)}, FrOk X scope N fr → fr.length = N.length
  | [], [], _ => rfl
  | _ :: N, none :: fr, h => by simp [FrOk.len (N := N) (fr := fr) h]
  | _ :: N, some j :: fr, h => by simp [FrOk.len (N := N) (fr := fr) h.2]
  | [], _ :: _, h => h.elim
  | _ :: _, [], h => h.elim
theorem FrOk.get {X : Cx} {scope : Scope} : ∀ {N : List Str} {fr : List (Option Nat)} {i j : Nat} {x : Str}, FrOk X scope N fr → N[i]? = some x → fr[i]? = some (some j) → X.N[j]? = some x ∧ (X.env.kindOf x = some .cell ∨ X.env.kindOf x = some .free) ∧ scope.names.lookup x = some .free
  | [], _, i, j, x, h, e, _ => by simp at e
  | y :: N, [], _, _, _, h, _, _ => h.elim
  | y :: N, none :: fr, 0, j, x, h, e, e2 => by simp at e2
  | y :: N, none :: fr, i + 1, j, x, h, e, e2 => FrOk.get (N := N) (fr := fr) (i := i) h (by simpa using e) (by simpa using e2)
  | y :: N, some k :: fr, 0, j, x, h, e, e2 => by
    simp at e e2
    subst e e2
    exact h.1
  | y :: N, some k :: fr, i + 1, j, x, h, e, e2 => FrOk.get (N := N) (fr := fr) (i := i) h.2 (by simpa using e) (by simpa using e2)
theorem stC_get {fr : List (Option Nat)} {σ : St} {i : Nat} {v : V} (h : (stC fr σ)[i]? = some (some v)) : ∃ j, fr[i]? = some (some j) ∧ σ[j]? = some (some v) := by
  unfold stC at h
  rw [List.getElem?_map] at h
  cases e : fr[i]? with
  | none => rw [e] at h; cases h
  | some o =>
    rw [e] at h
    cases o with
    | none => cases h
    | some j =>
      refine ⟨j, rfl, ?_⟩
      have h' : (σ[j]?).join = some v := by simpa using h
      cases e2 : σ[j]? with
      | none => rw [e2] at h'; cases h'
      | some w => rw [e2] at h'; cases w with
        | none => cases h'
        | some z => cases h'; rfl
section
variable {X : Cx} {scope : Scope} {N : List Str} {fr : List (Option Nat)}
theorem CompOk.cells (c : CompOk X scope N fr) (ok : X.Ok) : ∀ y ∈ scope.names, y.2 = .free → ∃ c, X.env.cells.lookup y.1 = some c := fun y hy e => ok.has y.1 (c.frees y hy e)
theorem CompOk.get (c : CompOk X scope N fr) (ok : X.Ok) {x : Str} {a : Addr} (h : (clOf X.env scope.names []).lookup x = some a) : X.env.cells.lookup x = some a :=
  clOf_get scope.names [] (c.cells ok) (fun _ _ z => by simp at z) h
theorem comp_ok {pins : List (Addr × Obj)} {σ : St} {H : Hp} {s₂ : Shared} {C : Addr} {fp : List Addr} (c : CompOk X scope N fr) (I : Inv X pins σ H s₂) (hC : s₂.heap.objs.size ≤ C) (hfp : ∀ b ∈ fp, FpOk X pins H b ∧ b < s₂.heap.objs.size) :
    (cxC X scope C N s₂ H fp).Ok where
  mod := I.ok.mod
  kind := c.kind
  glob := I.ok.glob
  blt := I.ok.blt
  above := hC
  inj := fun x y a h1 h2 => I.ok.inj x y a (c.get I.ok h1) (c.get I.ok h2)
  has := fun x h => by
    have hm : (x, NameKind.free) ∈ scope.names := by
      rcases h with h | h
      · rcases relabel_get h with z | ⟨_, z⟩
        · exact absurd rfl (c.ncell _ z)
        · exact z
      · rcases relabel_get h with z | ⟨z, _⟩
        · exact z
        · cases z
    exact clOf_has scope.names [] (.inl hm)
  cab := fun x a h => by cases h
  hd := I.ok.hd
  frames := I.ok.frames
  stk := .inl rfl
  exf := fun b hb => ⟨Nat.ne_of_lt (Nat.lt_of_lt_of_le (hfp b hb).2 hC), fun x a h => (hfp b hb).1.2.2.2.2.1 x a (c.get I.ok h)⟩
  bs := I.bs
  bsz := Nat.le_trans I.ok.bsz I.sz
  noex := fun b o e hb => by
    rcases (hfp b hb).1.2.2.2.1 with z | z
    · exact I.ok.noex b o e z
    · have h1 : b < X.base.objs.size := Heap.lt_size e
      have h2 := I.ok.bsz
      exact absurd (Nat.lt_of_lt_of_le h1 (Nat.le_trans h2 z)) (Nat.lt_irrefl _)
  exfs := fun b hb z => by
    rcases List.mem_cons.mp (I.stkSub b z) with e | e
    · exact (hfp b hb).1.2.1 e
    · exact (hfp b hb).1.2.2.1 e
  funs := I.stack
  frf := I.stkFree
theorem comp_inv {pins : List (Addr × Obj)} {σ : St} {H : Hp} {s₂ : Shared} {C : Addr} {fp : List Addr} {h₄ : Heap} {tk : Nat} (c : CompOk X scope N fr) (I : Inv X pins σ H s₂) (hC : s₂.heap.objs.size ≤ C) (hfp : ∀ b ∈ fp, FpOk X pins H b ∧ b < s₂.heap.objs.size)
    (hk : ∀ b o, s₂.heap.get? b = some o → h₄.get? b = some o) (hn : h₄.Ns C fun _ => none) : Inv (cxC X scope C N s₂ H fp) [] (stC fr σ) H { s₂ with heap := h₄, toks := tk } := by
  refine ⟨comp_ok c I hC hfp, rfl, I.bare, Un.kept hk, ⟨_, hn, fun i x v e1 e2 e3 => ?_⟩, fun x a e => ?_, I.hok.fresh hC, fun x a e => I.freeC x a (c.get I.ok e), fun p hp => absurd (show p ∈ ([] : List (Addr × Obj)) from hp) (by simp), I.hok.kept hk, ?_⟩
  · obtain ⟨j, f1, f2⟩ := stC_get e2
    obtain ⟨g1, g2, g3⟩ := c.fr.get e1 f1
    obtain ⟨m, hm, hl⟩ := I.loc
    have vis : Vis X.env.scope x := by
      rcases g2 with g | g
      · exact .inr (.inl g)
      · exact .inr (.inr g)
    obtain ⟨u, ru, lk⟩ := hl j x v g1 f2 vis
    refine ⟨u, ru, ?_⟩
    rcases lk with ⟨k, _⟩ | ⟨_, a, ea, o, ho, hd⟩
    · rcases g2 with g | g <;> (rw [k] at g; cases g)
    · obtain ⟨a', ea'⟩ := clOf_has (env := X.env) scope.names [] (.inl (PySem.mem_of_lookup g3))
      have e5 := c.get I.ok ea'
      rw [ea] at e5
      cases e5
      have kd : (cxC X scope C N s₂ H fp).env.kindOf x = some .cell ∨ (cxC X scope C N s₂ H fp).env.kindOf x = some .free := relabel_free g3
      exact .inr ⟨kd, a, ea', o, hk _ _ ho, hd⟩
  · obtain ⟨v, o, ho, hd⟩ := I.cell x a (c.get I.ok e)
    exact ⟨v, o, hk _ _ ho, hd⟩
  · unfold stC
    rw [List.length_map]
    exact c.fr.len
end

section
variable {prog : Program} {w : World} {A : Around} {E : Value → Shared → Prop} {R : Result → Shared → Prop} {s : Shared}
/-- a turn of the block's loop, whatever the target is -/
theorem compLoop_any {elt target iter : Expr} {ifs : List Expr} {scope : Scope} {pos : Pos} {it acc : Value} {env : Env} (I : Nat → Shared → Prop)
    (turn : ∀ n s, I n s → wpAny (model prog w) A (pyNext it) (fun r s₁ => match r with
      | none => R (.ok .next) s₁
      | some v => wpAny (model prog w) A (letOwnedTupleGo target it v) (fun _ s₀ => wpAny (model prog w) A (assign target env v) (fun _ s₂ =>
          wpAny (model prog w) A (forIn ifs true fun c r => if r = true then do let ok ← isTrue c env (eval c env); pure (ForInStep.yield ok) else pure (ForInStep.yield r)) (fun ok s₃ =>
            if ok = true then wpAny (model prog w) A (eval elt env) (fun x s₄ =>
              wpAny (model prog w) A (call (.builtin "list.append") [acc, x]) (fun _ s₅ => ∃ m, m < n ∧ I m s₅) (fun _ _ => False) s₄) (fun _ _ => False) s₃
            else ∃ m, m < n ∧ I m s₃) (fun _ _ => False) s₂) (fun _ _ => False) s₀) (fun _ _ => False) s₁) (fun _ _ => False) s)
    (n : Nat) (h : I n s) :
    codeAny (model prog w) A (.compLoop (.ListComp elt [⟨target, iter, ifs, 0⟩] scope pos) 0 it acc env) R s := by
  refine codeAny_loop rfl I (fun n s hI => ?_) n h
  show wpAny _ A ((compTurn (.ListComp elt [⟨target, iter, ifs, 0⟩] scope pos) 0 it acc env).onRaise (fun x => do noteFrame x env; theTreesLotGoes x)) _ _ s
  refine wpAny_noted ?_
  rw [compTurn_list]
  have nf : ∀ {α : Type} {m : Sem α} {Q : α → Shared → Prop} {F : Value → Shared → Prop} {s : Shared}, wpAny (model prog w) A m Q (fun _ _ => False) s → wpAny (model prog w) A m Q F s := fun h => wpAny_mono h (fun _ _ x => x) fun _ _ x => x.elim
  refine wpAny_bind (wpAny_standAt (wpAny_bind (wpAny_mono (nf (turn n s hI)) (fun r s₁ h₁ => ?_) fun _ _ h' => h')))
  cases r with
  | none => exact wpAny_pure h₁
  | some v =>
    refine wpAny_bind (wpAny_mono (nf h₁) (fun _ s₀ h₀ => ?_) fun _ _ h' => h')
    refine wpAny_bind (wpAny_mono (nf h₀) (fun _ s₂ h₂ => wpAny_bind (wpAny_mono (nf h₂) (fun ok s₃ h₃ => ?_) fun _ _ h' => h')) fun _ _ h' => h')
    cases ok with
    | false => exact wpAny_pure ⟨rfl, h₃⟩
    | true =>
      exact wpAny_bind (wpAny_bind (wpAny_mono (nf h₃) (fun x s₄ h₄ => wpAny_bind (wpAny_mono (nf h₄) (fun _ s₅ h₅ => wpAny_pure (wpAny_pure ⟨rfl, h₅⟩)) fun _ _ h' => h')) fun _ _ h' => h'))
end

/-! ### targets that leave the free names -/
def Wk (fr : List (Option Nat)) (σ σ2 : St) : Prop := σ2.length = σ.length ∧ ∀ (i j : Nat), fr[i]? = some (some j) → σ2[i]? = σ[i]?
theorem Wk.trans {fr : List (Option Nat)} {a b c : St} (h1 : Wk fr a b) (h2 : Wk fr b c) : Wk fr a c := ⟨h2.1.trans h1.1, fun i j e => (h2.2 i j e).trans (h1.2 i j e)⟩
def GW (fr : List (Option Nat)) (g : TG) : Prop := ∀ x σ H (Q Q' : St → Hp → Prop), (∀ σ2 H2, Wk fr σ σ2 → Q σ2 H2 → Q' σ2 H2) → g x σ H Q → g x σ H Q'
def GWs (fr : List (Option Nat)) (g : TGs) : Prop := ∀ x σ H (Q Q' : St → Hp → Prop), (∀ σ2 H2, Wk fr σ σ2 → Q σ2 H2 → Q' σ2 H2) → g x σ H Q → g x σ H Q'
theorem gw_name {fr : List (Option Nat)} {i : Nat} (h : fr[i]? = some none) : GW fr (gName i) := fun x σ H Q Q' k q => by
  refine k _ _ ⟨by simp, fun a j e => ?_⟩ q
  have : i ≠ a := fun z => by subst z; rw [h] at e; cases e
  rw [List.getElem?_set_ne this]
theorem gws_nil {fr : List (Option Nat)} : GWs fr gNil := fun x σ H Q Q' k q => ⟨q.1, k _ _ ⟨rfl, fun _ _ _ => rfl⟩ q.2⟩
theorem gws_cons {fr : List (Option Nat)} {t : TG} {u : TGs} (h1 : GW fr t) (h2 : GWs fr u) : GWs fr (gCons t u) := fun x σ H Q Q' k q => by
  obtain ⟨v, r, e, q⟩ := q
  exact ⟨v, r, e, h1 v σ H _ _ (fun σ' H' w1 q1 => h2 r σ' H' _ _ (fun σ2 H2 w2 q2 => k _ _ (w1.trans w2) q2) q1) q⟩
theorem gw_tup {fr : List (Option Nat)} {K : PySem.W.Frag} {n : Nat} {t : TGs} (h : GWs fr t) : GW fr (gTup K n t) := fun x σ H Q Q' k q => by
  obtain ⟨a, xs, e1, e2, e3, q⟩ := q
  exact ⟨a, xs, e1, e2, e3, h xs σ H _ _ k q⟩

/-! ### the tests -/
def PIfs (X : Cx) (ifs : List Expr) (t : TT) : Prop :=
  ∀ (pins : List (Addr × Obj)) (s : Shared) (σ : St) (H : Hp) (Q : Bool → Hp → Prop), Inv X pins σ H s → t σ H Q →
    wpAny (model X.prog X.w) X.A (forIn ifs true fun c r => if r = true then do let ok ← isTrue c X.env (eval c X.env); pure (ForInStep.yield ok) else pure (ForInStep.yield r)) (TP X pins σ Q) X.xe s
def tNoIf : TT := fun _ H Q => Q true H
theorem pifs_nil {X : Cx} : PIfs X [] tNoIf := fun _ _ _ H _ I h => wpAny_tests_nil ⟨H, I, h⟩
theorem pifs_one {X : Cx} {c : Expr} {t : TT} (h : PT X c t) : PIfs X [c] t := fun pins s σ H Q I q => wpAny_tests_one (h pins s σ H Q I q)

/-! ### the comprehension -/
def CompI (J : It) (g : TG) (ti : TT) (te : TE) (σc : St) (H1 : Hp) (Q : VK) : Prop := ∃ W : Nat → Nat → List V → Hp → Prop, (∃ m, W 0 m [] H1) ∧ ∀ i m ys H, W i m ys H → ys.length < sizeLine ∧
  ((J.stop i H ∧ ∀ l, H l = none → Q (.ref l) (upd H l (.lst ys))) ∨ (J.go i H ∧ ∃ M : List V → Hp → Prop, (∀ ys' H', M ys' H' → ∃ m', m' < m ∧ W (i + 1) m' ys' H') ∧
    ∀ x H', J.yld i H x H' → g x σc H' fun σ2 H2 => ti σ2 H2 fun b H3 => if b = true then te σ2 H3 fun y H4 => M (ys ++ [y]) H4 else M ys H3))
def tComp (fr : List (Option Nat)) (wi : TI) (g : TG) (ti : TT) (te : TE) : TE := fun σ H Q => wi σ H fun J H1 => CompI J g ti te (stC fr σ) H1 Q
structure Aside (X : Cx) (pins : List (Addr × Obj)) (H : Hp) (C : Addr) : Prop where
  fr : H C = none
  ne : C ≠ X.env.locals
  ab : X.s₀.heap.objs.size ≤ C
  cl : ∀ x c, X.env.cells.lookup x = some c → c ≠ C
  pn : ∀ p ∈ X.pn ++ pins, p.1 ≠ C
theorem Inv.aside {X : Cx} {pins : List (Addr × Obj)} {σ : St} {H H' : Hp} {s : Shared} {C : Addr} (I : Inv X pins σ H s) (hC : s.heap.objs.size ≤ C) (hn : H' C = none) : Aside X pins H' C := by
  obtain ⟨a, b, c, d, e, f⟩ := I.fpOk hC hn
  exact ⟨hn, b, Nat.le_trans I.sz hC, e, f⟩
def lob (us : List Value) (n : Nat) : Obj := { cls := .type "list", dict := none, data := .seq us.toArray n }
section
variable {X : Cx} {scope : Scope} {N : List Str} {fr : List (Option Nat)} {tg iter elt : Expr} {ifs : List Expr} {pos : Pos} {J : It} {g : TG} {ti : TT} {te : TE}
theorem comp_core {pins : List (Addr × Obj)} {σ : St} {H : Hp} {s₂ : Shared} {it : Addr} {fp : List Addr} {tn : Nat → Heap → Prop} {Q : VK} {E : Value → Shared → Prop} (c : CompOk X scope N fr) (hc : X.calm = true) (I : Inv X pins σ H s₂)
    (T : Turn X.prog X.w X.K tg J fp it tn) (st : tn 0 s₂.heap) (hfp : ∀ b ∈ fp, FpOk X pins H b)
    (hg : ∀ C, PG (cxC X scope C N s₂ H fp) tg g) (hi : ∀ C, PIfs (cxC X scope C N s₂ H fp) ifs ti) (he : ∀ C, PE (cxC X scope C N s₂ H fp) elt te) (gw : GW fr g) (hq : CompI J g ti te (stC fr σ) H Q)
    {RR : Value → Addr → Result → Shared → Prop}
    (hRR : ∀ D C H' ys s', Inv X pins σ (upd H' D (.lst ys)) s' → Aside X pins (upd H' D (.lst ys)) C → (∃ m, s'.heap.Ns C m) → Q (.ref D) (upd H' D (.lst ys)) → RR (.ref D) C (.ok .next) s') :
    wpAny (model X.prog X.w) X.A (newList []) (fun acc s₃ => wpAny (model X.prog X.w) X.A (newFunctionEnv scope X.env.globals (clOf X.env scope.names []) [] X.env.qual none .none (some X.env)) (fun cenv s₄ =>
      codeAny (model X.prog X.w) X.A (.compStart (.ListComp elt [⟨tg, iter, ifs, 0⟩] scope pos) 0 (.ref it) acc { cenv with scope := relabel scope X.env }) (RR acc cenv.locals) s₄) E s₃) E s₂ := by
  refine wpAny_newObj_type (wpAny_newFunctionEnv c.ncell (by intro y hy; simp at hy) (fun h₁ hns₁ hsb₁ => ?_) c.kind)
  dsimp only at hns₁ hsb₁ ⊢
  generalize hH2 : s₂.heap.push { cls := .type "list", dict := none, data := .seq ([] : List Value).toArray } = H2 at hns₁ hsb₁ ⊢
  have hC : H2.objs.size = s₂.heap.objs.size + 1 := by rw [← hH2, Heap.size_push]
  have hCle : s₂.heap.objs.size ≤ H2.objs.size := by rw [hC]; exact Nat.le_succ _
  have hDC : s₂.heap.objs.size ≠ H2.objs.size := by rw [hC]; exact Nat.ne_of_lt (Nat.lt_succ_self _)
  have old : ∀ b o, s₂.heap.get? b = some o → h₁.get? b = some o := fun b o e => hsb₁.extBut b o (by rw [hC]; exact Nat.ne_of_lt (Nat.lt_succ_of_lt (Heap.lt_size e))) (Heap.get?_push_of_some _ (hH2 ▸ Heap.get?_push_of_some _ e))
  have hacc : h₁.get? s₂.heap.objs.size = some (lob [] 0) := hsb₁.extBut _ _ hDC (Heap.get?_push_of_some _ (hH2 ▸ Heap.get?_push_size _ rfl))
  generalize hD : s₂.heap.objs.size = D at *
  generalize hCC : H2.objs.size = C at *
  have hfp2 : ∀ b ∈ fp, FpOk X pins H b ∧ b < s₂.heap.objs.size := fun b hb => ⟨hfp b hb, by obtain ⟨o, e, _⟩ := T.obj _ _ st b hb; exact Heap.lt_size e⟩
  have hns₂ : h₁.Ns C fun _ => none := hns₁
  have I0 : Inv (cxC X scope C N s₂ H fp) [] (stC fr σ) H { s₂ with heap := h₁, toks := s₂.toks + ([] : List (Str × Value)).length } := comp_inv c I (by rw [hD]; exact hCle) hfp2 old hns₂
  have st₁ : tn 0 h₁ := T.keep _ _ _ st fun b hb o e => old b o e
  have hDn : ∀ b ∈ fp, b ≠ D := fun b hb => by rw [← hD]; exact Nat.ne_of_lt (hfp2 b hb).2
  -- what is true of the list that grows
  have dAs : ∀ {H' : Hp}, H' D = none → (D ≠ (cxC X scope C N s₂ H fp).env.locals ∧ (cxC X scope C N s₂ H fp).s₀.heap.objs.size ≤ D ∧ ∀ x a, (cxC X scope C N s₂ H fp).env.cells.lookup x = some a → a ≠ D) := fun hn => ⟨hDC, Nat.le_of_eq hD, fun x a e z => by
    obtain ⟨v, o, ho, _⟩ := I.cell x a (c.get I.ok e)
    have := Heap.lt_size ho
    rw [z, ← hD] at this
    exact Nat.lt_irrefl _ this⟩
  obtain ⟨W, ⟨m0, w0⟩, turn⟩ := hq
  have loop : codeAny (model X.prog X.w) X.A (.compLoop (.ListComp elt [⟨tg, iter, ifs, 0⟩] scope pos) 0 (.ref it) (.ref D) (compEnvC scope (clOf X.env scope.names []) C X.env)) (RR (.ref D) C) { s₂ with heap := h₁, toks := s₂.toks + ([] : List (Str × Value)).length } := by
    refine compLoop_any (fun n s' => ∃ i ys us k H', Inv (cxC X scope C N s₂ H fp) [] (stC fr σ) H' s' ∧ tn i s'.heap ∧ (∀ b ∈ fp, H' b = none) ∧ s'.heap.get? D = some (lob us k) ∧ Vals ys us ∧ H' D = none ∧ W i n ys H') ?_ m0
      ⟨0, [], [], 0, H, I0, st₁, fun b hb => (hfp b hb).1, hacc, .nil, by rw [← hD]; exact I.hok.fresh (Nat.le_refl _), w0⟩
    rintro n s3 ⟨i, ys, us, k, H3, I3, st3, fr3, hD3, rv3, hDn3, w3⟩
    obtain ⟨hlen, alt⟩ := turn i n ys H3 w3
    obtain ⟨d1, d2, d3⟩ := dAs hDn3
    -- the list pinned
    have I3p : Inv (cxC X scope C N s₂ H fp) [(D, lob us k)] (stC fr σ) H3 s3 := I3.pins_of fun p hp => by
      have e : p = (D, lob us k) := by simpa using hp
      subst e
      refine ⟨hD3, hDn3, d1, fun z => ?_, fun v e => by cases (show Data.seq us.toArray k = Data.cell v from e)⟩
      have z' : D ∈ frs X.stack := z
      rcases List.mem_cons.mp (I.stkSub D z') with e | e
      · have := I.lt
        rw [← e, ← hD] at this
        exact Nat.lt_irrefl _ this
      · exact I.nofs (Nat.le_of_eq hD) e
    have stat : ∀ {H' : Hp}, (∀ b ∈ fp, H' b = none) → ∀ b ∈ fp, FpOk (cxC X scope C N s₂ H fp) [(D, lob us k)] H' b := fun hn b hb => by
      obtain ⟨q1, q2⟩ := hfp2 b hb
      refine ⟨hn b hb, Nat.ne_of_lt (Nat.lt_of_lt_of_le q2 (by rw [hD]; exact hCle)), fun z => ?_, .inl hb, fun x a e => q1.2.2.2.2.1 x a (c.get I.ok e), fun p hp => ?_⟩
      · exact (comp_ok c I (by rw [hD]; exact hCle) hfp2).exfs b hb z
      · have e : p = (D, lob us k) := by simpa [cxC] using hp
        subst e
        exact (hDn b hb).symm
    rcases alt with ⟨stop, qn⟩ | ⟨go, M, hM, step⟩
    · refine thn (T.done (cxC X scope C N s₂ H fp) rfl rfl rfl hc i _ s3 _ H3 _ I3p (stat fr3) st3 stop) fun r s4 ⟨hr, I4⟩ => ?_
      subst hr
      have pD := (I4.pin (D, lob us k) (by simp)).1
      have I4' : Inv (cxC X scope C N s₂ H fp) [] (stC fr σ) H3 s4 := I4.pins_of fun p hp => absurd hp (by simp)
      have IX : Inv X pins σ H3 s4 := I.call' I4'.os I4'.base I4'.hok I4'.bare fun b hb => by
        obtain ⟨q1, q2, q3, q4, q5, q6⟩ := hfp b hb
        exact ⟨q4, q2, q5, q6⟩
      have aD : Aside X pins H3 D := I.aside (Nat.le_of_eq hD) hDn3
      have IT : Inv X pins σ (upd H3 D (.lst ys)) s4 := IX.track hDn3 aD.ne aD.ab aD.cl aD.pn ⟨Nat.le_of_lt hlen, us, k, rv3, pD⟩
      refine hRR D C H3 ys s4 IT ?_ ?_ (qn D hDn3)
      · refine I.aside (by rw [hD]; exact hCle) ?_
        rw [upd_ne (Ne.symm hDC)]
        exact I4'.free
      · obtain ⟨m, hm, _⟩ := I4'.loc
        exact ⟨m, hm⟩
    · refine thn (T.item (cxC X scope C N s₂ H fp) rfl rfl rfl hc i _ s3 _ H3 _ I3p (stat fr3) st3 go) fun r s4 ⟨u, hr, h4⟩ => ?_
      subst hr
      refine thn h4 fun _ s5 ⟨x, H5, I5, r5, y5, st5, fr5⟩ => ?_
      have I5' := I5.pinned (stat fr5) (T.obj _ _ st5)
      refine thn (hg C _ s5 _ H5 x u _ I5' r5 (gw x _ H5 _ _ (fun σ2 H2 wk q => And.intro wk q) (step x H5 y5))) fun _ s6 ⟨σ6, H6, I6, wk6, q6⟩ => ?_
      refine thn (hi C _ s6 σ6 H6 _ I6 q6) fun ok s7 ⟨H7, I7, q7⟩ => ?_
      have back : ∀ {σ8 : St} {H8 : Hp} {s8 : Shared}, σ8 = σ6 → Inv (cxC X scope C N s₂ H fp) ([(D, lob us k)] ++ pinsAt fp s5.heap) σ8 H8 s8 → Inv (cxC X scope C N s₂ H fp) [] (stC fr σ) H8 s8 ∧ tn (i + 1) s8.heap ∧ (∀ b ∈ fp, H8 b = none) ∧ s8.heap.get? D = some (lob us k) ∧ H8 D = none := fun {σ8 H8 s8} e8 I8 => by
        subst e8
        have pf : ∀ b o, b ∈ fp → s5.heap.get? b = some o → s8.heap.get? b = some o ∧ H8 b = none := fun b o hb e => by
          have := I8.pin (b, o) (List.mem_append_right _ (List.mem_append_right _ (mem_pinsAt hb e)))
          exact ⟨this.1, this.2.1⟩
        refine ⟨(I8.pins_of (pins' := []) fun p hp => absurd hp (by simp)).weak wk6.1.symm fun a v e => ?_, T.keep _ _ _ st5 fun b hb o e => (pf b o hb e).1, fun b hb => ?_, (I8.pin (D, lob us k) (by simp)).1, (I8.pin (D, lob us k) (by simp)).2.1⟩
        · obtain ⟨j, f1, _⟩ := stC_get e
          rw [wk6.2 a j f1]
          exact e
        · obtain ⟨o, e, _⟩ := T.obj _ _ st5 b hb
          exact (pf b o hb e).2
      cases ok with
      | false =>
        obtain ⟨m', hm, w7⟩ := hM _ _ (by simpa using q7)
        obtain ⟨a1, a2, a3, a4, a5⟩ := back rfl I7
        exact ⟨m', hm, i + 1, ys, us, k, H7, a1, a2, a3, a4, rv3, a5, w7⟩
      | true =>
        have q7' : te σ6 H7 fun y H4 => M (ys ++ [y]) H4 := by simpa using q7
        refine thn (he C _ s7 σ6 H7 _ I7 q7') fun v s8 ⟨y, H8, I8, ry, q8⟩ => ?_
        obtain ⟨m', hm, w8⟩ := hM _ _ q8
        obtain ⟨a1, a2, a3, a4, a5⟩ := back rfl I8
        have hus : us.toArray.size ≤ sizeLine := by
          rw [List.size_toArray, ← rv3.length]
          exact Nat.le_of_lt hlen
        refine wpAny_list_append_plain (hsz := hus) (l := D) (items := us.toArray) ⟨_, a4⟩ fun h₅ hl₅ hs₅ => ?_
        obtain ⟨k', hl₅'⟩ := hl₅
        obtain ⟨e1, e2, e3⟩ := dAs a5
        refine ⟨m', hm, i + 1, ys ++ [y], us ++ [v], k', H8, a1.turned (t' := s8.toks) (fun b o hb e => (hs₅.2 b hb).trans e) a5 e1 (.inr e2) e3 (fun p hp => absurd (show p ∈ ([] : List (Addr × Obj)) from hp) (by simp)), T.keep _ _ _ a2 fun b hb o e => (hs₅.2 b (hDn b hb)).trans e, a3, ?_, rv3.append (.cons ry .nil), a5, w8⟩
        show h₅.get? D = _
        rw [hl₅']
        simp [lob]
  exact codeAny_compStart_list loop (T.self _ _ _ _ _ st₁ loop)

theorem pe_comp {wi : TI} (c : CompOk X scope N fr) (hc : X.calm = true) (hi : PI X tg iter wi) (hg : ∀ C s₂ H fp, PG (cxC X scope C N s₂ H fp) tg g) (hf : ∀ C s₂ H fp, PIfs (cxC X scope C N s₂ H fp) ifs ti) (he : ∀ C s₂ H fp, PE (cxC X scope C N s₂ H fp) elt te) (gw : GW fr g)
    (hs : ∀ x, foldedSetIterable iter X.env x = pure x := by intro _; rfl) : PE X (.ListComp elt [⟨tg, iter, ifs, 0⟩] scope pos) (tComp fr wi g ti te) := by
  intro pins s σ H Q I h
  rw [eval_ListComp]
  refine wpAny_comprehension_free (use := none) rfl hs (closure_eq (c.cells I.ok)) c.kind c.names (thn (hi pins s σ H _ I h) fun v s1 h1 => thn h1 fun itv s2 h2 => ?_)
  obtain ⟨it, fp, tn, J, H2, e, I2, T, st2, f2, q⟩ := h2
  subst e
  refine comp_core (RR := fun acc C => compPost (model X.prog X.w) X.A X.xe none (EP X pins σ Q) acc C) c hc I2 T st2 f2 (fun C => hg C _ _ _) (fun C => hf C _ _ _) (fun C => he C _ _ _) gw q ?_
  intro D C H' ys s' IT as hm q
  obtain ⟨m, hm⟩ := hm
  exact ⟨m, hm, fun h' sb => ⟨.ref D, _, IT.turned (t' := s'.toks) (fun b o hb e => (sb.2 b hb).trans e) as.fr as.ne (.inr as.ab) as.cl as.pn, rfl, q⟩⟩
theorem ps_setC {wi : TI} {i : Nat} {x : Str} {pos' spos : Pos} (hN : X.N.Nodup) (hn : X.N[i]? = some x) (hx : Loc X.env.scope x) (c : CompOk X scope N fr) (hc : X.calm = true) (hi : PI X tg iter wi) (hg : ∀ C s₂ H fp, PG (cxC X scope C N s₂ H fp) tg g) (hf : ∀ C s₂ H fp, PIfs (cxC X scope C N s₂ H fp) ifs ti) (he : ∀ C s₂ H fp, PE (cxC X scope C N s₂ H fp) elt te) (gw : GW fr g)
    (hsw : swapsWith (.ListComp elt [⟨tg, iter, ifs, 0⟩] scope pos) (some (.Name x pos')) spos.line X.env = pure true := by rfl) (hs : ∀ x, foldedSetIterable iter X.env x = pure x := by intro _; rfl)
    (hfl : X.fn x = true ∨ X.env.scope.names.lookup x = some .local := by first | exact .inl rfl | exact .inr rfl | assumption) :
    PS X (.Assign [.Name x pos'] (.ListComp elt [⟨tg, iter, ifs, 0⟩] scope pos) spos) (tAsg (tComp fr wi g ti te) (gName i)) := by
  intro pins s σ H Q I h
  rw [exec_Assign_Name_used _ _ _ _ hsw]
  refine wpAny_bind (wpAny_standAt (wpAny_bind ?_))
  show wpAny _ X.A (do let _ ← comprehension (.ListComp elt [⟨tg, iter, ifs, 0⟩] scope pos) scope X.env _ (newList []) false (eval iter X.env) (some (assign (.Name x pos') X.env))) _ _ s
  refine wpAny_bind (wpAny_mono (wpAny_comprehension_free (use := some (assign (.Name x pos') X.env)) (Q := fun _ s' => SP X pins Q .next s') rfl hs (closure_eq (c.cells I.ok)) c.kind c.names
    (thn (hi pins s σ H _ I h) fun v s1 h1 => thn h1 fun itv s2 h2 => ?_)) (fun _ s' hq => wpAny_pure (wpAny_pure hq)) fun _ _ e => e)
  obtain ⟨it, fp, tn, J, H2, e, I2, T, st2, f2, q⟩ := h2
  subst e
  refine comp_core (RR := fun acc C => compPost (model X.prog X.w) X.A X.xe (some (assign (.Name x pos') X.env)) (fun _ s' => SP X pins Q .next s') acc C) c hc I2 T st2 f2 (fun C => hg C _ _ _) (fun C => hf C _ _ _) (fun C => he C _ _ _) gw q ?_
  intro D C H' ys s' IT as hm q
  obtain ⟨m, hm⟩ := hm
  show wpAny _ X.A (assign (.Name x pos') X.env (.ref D)) _ _ _
  refine wpAny_assign_Name (store_ok2 IT hN hn hx (v := .ref D) rfl (fun s2 I3 hsb => ?_) hfl)
  obtain ⟨a, sb, ha⟩ := hsb
  have hne : C ≠ a := by
    rcases ha with ha | ha
    · rw [ha]; exact as.ne
    · exact (as.cl _ _ ha).symm
  refine ⟨m, hm.sameBut sb hne, fun h' sb' => ⟨_, _, I3.turned (t' := s2.toks) (fun b o hb e => (sb'.2 b hb).trans e) as.fr as.ne (.inr as.ab) as.cl as.pn, q⟩⟩
end
end L2

set_option Elab.async false
set_option linter.all false
set_option maxRecDepth 100000
namespace L2
open PySem PySem.Spec PyProof.Rows

/-- several untracked records of ours have turned -/
theorem Inv.turnedL {X : Cx} {pins : List (Addr × Obj)} {σ : St} {H : Hp} {s : Shared} {h' : Heap} {t' : Nat} {fp : List Addr} (I : Inv X pins σ H s) (hf : ∀ b ∈ fp, FpOk X pins H b) (k : ∀ b o, b ∉ fp → s.heap.get? b = some o → h'.get? b = some o) :
    Inv X pins σ H { s with heap := h', toks := t' } := by
  have nit : ∀ b u, H b = some u → b ∉ fp := fun b u e z => by rw [(hf b z).1] at e; cases e
  refine I.step (g' := s.gens) (d' := s.drawn) (ch := fp) (fun b hb => ?_) (fun b o _ _ hc e _ => k b o hc e) (fun b o _ _ hc e _ => ⟨o.slots, k b o hc e⟩) (fun _ _ _ _ n => n)
    (fun b o hc e => ⟨o, k b o hc e⟩) (fun _ _ e => e) (fun _ _ _ e => e) (fun b ps e => ⟨#[], by rw [e]; simp⟩) (fun m hm => ?_) (fun b u e => ?_) I.bare
  · obtain ⟨q1, q2, q3, q4, q5, q6⟩ := hf b hb
    exact ⟨q4, q2, q5, q6⟩
  · obtain ⟨o, es, ep, ho, r⟩ := hm
    exact ⟨o, es, ep, k _ o (fun z => (hf _ z).2.1 rfl) ho, r⟩
  · refine (I.hok b u e).stay (fun c v hc q => k c v ?_ q) (fun _ q => q) fun _ _ q => q
    rcases hc with z | z
    · rw [z]; exact nit b u e
    · exact nit c _ z
/-- .. and a tuple is new -/
theorem Inv.turnT {X : Cx} {pins : List (Addr × Obj)} {σ : St} {H : Hp} {s : Shared} {h' : Heap} {t' : Nat} {fp : List Addr} {T : Addr} {xs : List V} {its : List Value} (I : Inv X pins σ H s) (hf : ∀ b ∈ fp, FpOk X pins H b) (k : ∀ b o, b ∉ fp → s.heap.get? b = some o → h'.get? b = some o)
    (hT : s.heap.objs.size ≤ T) (hz : xs.length ≤ sizeLine) (r : Vals xs its) (it : IsTup h' T its.toArray) : Inv X pins σ (upd H T (.tup xs)) { s with heap := h', toks := t' } := by
  have hn : H T = none := I.hok.fresh hT
  have a := I.aside hT hn
  exact (I.turnedL (t' := t') hf k).track hn a.ne a.ab a.cl a.pn ⟨hz, its, r, it⟩

/-! ### zip of two lists -/
def Itz (K : PySem.W.Frag) (a b : Addr) : It :=
  ⟨fun i H => ∃ xs ys x y, SqL K H a xs ∧ SqL K H b ys ∧ xs[i]? = some x ∧ ys[i]? = some y,
   fun i H v H' => ∃ T x y, v = .ref T ∧ H T = none ∧ H' = upd H T (.tup [x, y]) ∧ (∀ xs, SqL K H a xs → xs[i]? = some x) ∧ ∀ ys, SqL K H b ys → ys[i]? = some y,
   fun i H => ∃ xs ys, SqL K H a xs ∧ SqL K H b ys ∧ (xs.length ≤ i ∨ ys.length ≤ i)⟩
def ZipSt (z TI TO i1 i2 a b : Addr) (i : Nat) (h : Heap) : Prop := IsZip h z TI TO .none ∧ IsPair h TI (.ref i1) (.ref i2) ∧ (∃ u v, IsPair h TO u v) ∧ h.IsListIter i1 a i ∧ h.IsListIter i2 b i
theorem turn_zip {P : Program} {w : World} {K : PySem.W.Frag} {elts : List Expr} {kk : Nat} {tp : Pos} {z TI TO i1 i2 a b : Addr} (D : ZipApart z TI TO i1 i2 a b) :
    Turn P w K (.Tuple elts kk tp) (Itz K a b) [z, TI, TO, i1, i2] z (ZipSt z TI TO i1 i2 a b) where
  mem := by simp
  obj := fun i h st c hc => by
    obtain ⟨h1, h2, ⟨u, v, h3⟩, ⟨o1, e1, _, d1⟩, ⟨o2, e2, _, d2⟩⟩ := st
    simp only [List.mem_cons, List.not_mem_nil, or_false] at hc
    rcases hc with rfl | rfl | rfl | rfl | rfl
    · exact ⟨_, h1, fun v z => by cases (show Data.fields _ = Data.cell v from z)⟩
    · exact ⟨_, h2, fun v z => by cases (show Data.seq _ _ = Data.cell v from z)⟩
    · exact ⟨_, h3, fun v z => by cases (show Data.seq _ _ = Data.cell v from z)⟩
    · exact ⟨_, e1, fun v z => by rw [d1] at z; cases z⟩
    · exact ⟨_, e2, fun v z => by rw [d2] at z; cases z⟩
  keep := fun i h h' st k => by
    obtain ⟨h1, h2, ⟨u, v, h3⟩, h4, h5⟩ := st
    exact ⟨k _ (by simp) _ h1, k _ (by simp) _ h2, ⟨u, v, k _ (by simp) _ h3⟩, h4.at fun o e => k _ (by simp) o e, h5.at fun o e => k _ (by simp) o e⟩
  item := by
    intro X hP hw hK hc i pins s σ H E I hf st hg
    subst hP hw hK
    obtain ⟨xs, ys, x, y, hx, hy, ex, ey⟩ := hg
    obtain ⟨h1, h2, ⟨u, v, h3⟩, h4, h5⟩ := st
    obtain ⟨its, rv, p, hz⟩ := I.list hx
    obtain ⟨jts, rw', q, hz'⟩ := I.list hy
    obtain ⟨ux, hux, rux⟩ := rv.get ex
    obtain ⟨uy, huy, ruy⟩ := rw'.get ey
    refine wpAny_pyNext_zip_item D h1 h2 h3 h4 h5 p.isList q.isList (x := ux) (y := uy) (by simpa using hux) (by simpa using huy) fun h' a1 a2 a3 a4 a5 a6 a7 => ?_
    have lt : ∀ c ∈ [z, TI, TO, i1, i2], c < s.heap.objs.size := fun c hc => by
      obtain ⟨o1, e1, _⟩ := h4
      obtain ⟨o2, e2, _⟩ := h5
      simp only [List.mem_cons, List.not_mem_nil, or_false] at hc
      rcases hc with rfl | rfl | rfl | rfl | rfl
      · exact Heap.lt_size h1
      · exact Heap.lt_size h2
      · exact Heap.lt_size h3
      · exact Heap.lt_size e1
      · exact Heap.lt_size e2
    have zT : z ≠ s.heap.objs.size := Nat.ne_of_lt (lt z (by simp))
    refine ⟨_, rfl, wpAny_letOwnedTupleGo_zip a1 fun h2' b1 b2 => ?_⟩
    have hk : ∀ c o, c ∉ [z, TI, TO, i1, i2] → s.heap.get? c = some o → h2'.get? c = some o := fun c o hc e => by
      simp only [List.mem_cons, List.not_mem_nil, or_false, not_or] at hc
      exact (b2.2 c hc.1).trans (a7 c o hc.1 hc.2.2.1 hc.2.2.2.1 hc.2.2.2.2 e)
    have I1 := I.turnT (h' := h2') (t' := s.toks) (T := s.heap.objs.size) (xs := [x, y]) (its := [ux, uy]) hf hk (Nat.le_refl _) (szl (Nat.le_of_ble_eq_true rfl)) (.cons rux (.cons ruy .nil)) ⟨_, (b2.2 _ zT.symm).trans a5, rfl, _, rfl⟩
    refine ⟨.ref s.heap.objs.size, _, I1, rfl, ⟨_, x, y, rfl, I.hok.fresh (Nat.le_refl _), rfl, fun xs' h => by rw [I.list_inj h hx]; exact ex, fun ys' h => by rw [I.list_inj h hy]; exact ey⟩, ?_, fun c hc => ?_⟩
    · exact ⟨b1, (b2.2 _ D.TIz).trans (a7 _ _ D.TIz D.TITO D.TIi1 D.TIi2 h2), ⟨_, _, (b2.2 _ D.TOz).trans a2⟩, a3.at fun o e => (b2.2 _ D.i1z).trans e, a4.at fun o e => (b2.2 _ D.i2z).trans e⟩
    · rw [upd_ne (Nat.ne_of_lt (lt c hc))]
      exact (hf c hc).1
  done := by
    intro X hP hw hK hc i pins s σ H E I hf st hg
    subst hP hw hK
    obtain ⟨xs, ys, hx, hy, hl⟩ := hg
    obtain ⟨h1, h2, ⟨u, v, h3⟩, h4, h5⟩ := st
    obtain ⟨its, rv, p, hz⟩ := I.list hx
    obtain ⟨jts, rw', q, hz'⟩ := I.list hy
    have l1 := rv.length
    have l2 := rw'.length
    refine wpAny_pyNext_zip_end (I.ok.hd hc) D h1 h2 h3 h4 h5 p.isList q.isList ?_ fun h' hk => ⟨rfl, ?_⟩
    · rcases hl with hl | hl
      · left; simp; omega
      · right; simp; omega
    · exact I.turnedL (t' := s.toks) hf fun c o hc e => by
        simp only [List.mem_cons, List.not_mem_nil, or_false, not_or] at hc
        exact hk c o hc.1 hc.2.2.1 hc.2.2.2.1 hc.2.2.2.2 e
  self := fun A i s Q E st h => wpAny_pyIter_zip st.1 h
def iZip2 (K : PySem.W.Frag) (ta : TA) : TI := fun σ H R => ta σ H fun vs H1 => ∃ a b, vs = [.ref a, .ref b] ∧ (∃ xs, SqL K H1 a xs) ∧ (∃ ys, SqL K H1 b ys) ∧ R (Itz K a b) H1
theorem bt_zip : bootBuiltins "zip" = some (.type "zip") := by first | exact PySem.boot_zip | exact PyProof.Rows.boot_zip
theorem bt_enumerate : bootBuiltins "enumerate" = some (.type "enumerate") := by first | exact PySem.boot_enumerate | exact PyProof.Rows.boot_enumerate
section
variable {X : Cx} {elts : List Expr} {kk : Nat} {tp : Pos}
theorem pi_zip2 {a b : Expr} {ta : TA} {p pos : Pos} (hg : Gl X "zip") (hm : X.mg "zip" = none) (ha : PA X [a, b] ta) (hs : starEach [a, b] X.env = [(false, eval a X.env), (false, eval b X.env)] := by rfl) (hs2 : starEach [b] X.env = [(false, eval b X.env)] := by rfl) :
    PI X (.Tuple elts kk tp) (.Call (.Name "zip" p) [a, b] [] pos) (iZip2 X.K ta) := by
  intro pins s σ H R I h
  refine Call_ (ld_blt I hg hm bt_zip (PyProof.Rows.callWith_type1 (thn (ha pos pins s σ H _ I h) fun us s1 ⟨vs, H1, I1, r1, q1⟩ => ?_) (by rw [hs, hs2]) (by rw [hs2]; rfl)))
  obtain ⟨x, y, e, ⟨xs, hx⟩, ⟨ys, hy⟩, q⟩ := q1
  subst e
  cases r1 with
  | cons r rr =>
    cases rr with
    | cons r' rr =>
      cases rr
      obtain ⟨its, rv, pl, hz⟩ := I1.list hx
      obtain ⟨jts, rw', ql, hz'⟩ := I1.list hy
      cases r
      cases r'
      have a1 : x < s1.heap.objs.size := by obtain ⟨_, e, _⟩ := pl.isList; exact Heap.lt_size e
      have a2 : y < s1.heap.objs.size := by obtain ⟨_, e, _⟩ := ql.isList; exact Heap.lt_size e
      refine call_zip_2 pl.isList ql.isList fun h' b1 b2 b3 b4 b5 b6 b7 => ?_
      have I2 : Inv X pins σ H1 { s1 with heap := h' } := I1.kept (t' := s1.toks) b7
      refine wpAny_pyIter_zip (s := { s1 with heap := h' }) b1 ⟨_, _, _, _, H1, rfl, I2, turn_zip (zipApart_new a1 a2), ⟨b1, b2, ⟨_, _, b3⟩, b4, b5⟩, fun c hc => ?_, q⟩
      have hc' : s1.heap.objs.size ≤ c := by
        simp only [List.mem_cons, List.not_mem_nil, or_false] at hc
        rcases hc with rfl | rfl | rfl | rfl | rfl
        · exact Nat.le_add_right _ _
        · exact Nat.le_add_right _ _
        · exact Nat.le_add_right _ _
        · exact Nat.le_refl _
        · exact Nat.le_add_right _ _
      exact I1.fpOk hc' (I1.hok.fresh hc')
end

/-! ### enumerate of a list -/
def Ite (K : PySem.W.Frag) (a : Addr) : It :=
  ⟨fun i H => ∃ xs x, SqL K H a xs ∧ xs[i]? = some x,
   fun i H v H' => ∃ T x, v = .ref T ∧ H T = none ∧ H' = upd H T (.tup [.int i, x]) ∧ (∀ xs, SqL K H a xs → xs[i]? = some x),
   fun i H => ∃ xs, SqL K H a xs ∧ xs.length ≤ i⟩
theorem turn_enum {P : Program} {w : World} {K : PySem.W.Frag} {elts : List Expr} {kk : Nat} {tp : Pos} {e it a : Addr} (hei : e ≠ it) :
    Turn P w K (.Tuple elts kk tp) (Ite K a) [e, it] e (fun i h => (∃ old, IsEnum h e it i old) ∧ h.IsListIter it a i) where
  mem := by simp
  obj := fun i h st c hc => by
    obtain ⟨⟨old, h1⟩, ⟨o1, e1, _, d1⟩⟩ := st
    simp only [List.mem_cons, List.not_mem_nil, or_false] at hc
    rcases hc with rfl | rfl
    · exact ⟨_, h1, fun v z => by cases (show Data.fields _ = Data.cell v from z)⟩
    · exact ⟨_, e1, fun v z => by rw [d1] at z; cases z⟩
  keep := fun i h h' st k => by
    obtain ⟨⟨old, h1⟩, h2⟩ := st
    exact ⟨⟨old, k _ (by simp) _ h1⟩, h2.at fun o e => k _ (by simp) o e⟩
  item := by
    intro X hP hw hK hc i pins s σ H E I hf st hg
    subst hP hw hK
    obtain ⟨xs, x, hx, ex⟩ := hg
    obtain ⟨⟨old, h1⟩, h2⟩ := st
    obtain ⟨its, rv, p, hz⟩ := I.list hx
    obtain ⟨ux, hux, rux⟩ := rv.get ex
    refine wpAny_pyNext_enum_item h1 h2 p.isList (x := ux) (by simpa using hux) hei fun h' a1 a2 a3 a4 a5 => ?_
    have lt : ∀ c ∈ [e, it], c < s.heap.objs.size := fun c hc => by
      obtain ⟨o1, e1, _⟩ := h2
      simp only [List.mem_cons, List.not_mem_nil, or_false] at hc
      rcases hc with rfl | rfl
      · exact Heap.lt_size h1
      · exact Heap.lt_size e1
    have eT : e ≠ s.heap.objs.size := Nat.ne_of_lt (lt e (by simp))
    refine ⟨_, rfl, wpAny_letOwnedTupleGo_enum (s := { s with heap := h', toks := s.toks + 1 }) a1 fun h2' b1 b2 => ?_⟩
    have hk : ∀ c o, c ∉ [e, it] → s.heap.get? c = some o → h2'.get? c = some o := fun c o hc q => by
      simp only [List.mem_cons, List.not_mem_nil, or_false, not_or] at hc
      exact (b2.2 c hc.1).trans (a5 c o hc.1 hc.2 q)
    have I1 := I.turnT (h' := h2') (t' := s.toks + 1) (T := s.heap.objs.size) (xs := [.int i, x]) (its := [.int i s.toks, ux]) hf hk (Nat.le_refl _) (szl (Nat.le_of_ble_eq_true rfl)) (.cons ⟨_, rfl⟩ (.cons rux .nil)) ⟨_, (b2.2 _ eT.symm).trans a3, rfl, _, rfl⟩
    refine ⟨.ref s.heap.objs.size, _, I1, rfl, ⟨_, x, rfl, I.hok.fresh (Nat.le_refl _), rfl, fun xs' h => by rw [I.list_inj h hx]; exact ex⟩, ?_, fun c hc => ?_⟩
    · exact ⟨⟨ux, by simpa using b1⟩, a2.at fun o q => (b2.2 _ hei.symm).trans q⟩
    · rw [upd_ne (Nat.ne_of_lt (lt c hc))]
      exact (hf c hc).1
  done := by
    intro X hP hw hK hc i pins s σ H E I hf st hg
    subst hP hw hK
    obtain ⟨xs, hx, hl⟩ := hg
    obtain ⟨⟨old, h1⟩, h2⟩ := st
    obtain ⟨its, rv, p, hz⟩ := I.list hx
    have l1 := rv.length
    refine wpAny_pyNext_enum_end (I.ok.hd hc) h1 h2 p.isList (by simp; omega) fun h' hk => ⟨rfl, ?_⟩
    exact I.turnedL (t' := s.toks) hf fun c o hc q => by
        simp only [List.mem_cons, List.not_mem_nil, or_false, not_or] at hc
        exact hk c o hc.2 q
  self := fun A i s Q E st h => by
    obtain ⟨⟨old, h1⟩, _⟩ := st
    exact wpAny_pyIter_enum h1 h
def iEnum (K : PySem.W.Frag) (ta : TA) : TI := fun σ H R => ta σ H fun vs H1 => ∃ a, vs = [.ref a] ∧ (∃ xs, H1 a = some (.lst xs)) ∧ R (Ite K a) H1
section
variable {X : Cx} {elts : List Expr} {kk : Nat} {tp : Pos}
theorem pi_enumerate1 {a : Expr} {ta : TA} {p pos : Pos} (hg : Gl X "enumerate") (hm : X.mg "enumerate" = none) (ha : PA X [a] ta) (hs : starEach [a] X.env = [(false, eval a X.env)] := by rfl) :
    PI X (.Tuple elts kk tp) (.Call (.Name "enumerate" p) [a] [] pos) (iEnum X.K ta) := by
  intro pins s σ H R I h
  refine Call_ (ld_blt I hg hm bt_enumerate (PyProof.Rows.callWith_type1 (thn (ha pos pins s σ H _ I h) fun us s1 ⟨vs, H1, I1, r1, q1⟩ => ?_) hs rfl))
  obtain ⟨x, e, ⟨xs, hx⟩, q⟩ := q1
  subst e
  cases r1 with
  | cons r rr =>
    cases rr
    cases r
    obtain ⟨hz, its, n, rv, hg⟩ := (show ObjOk X.prog X.w H1 s1.heap x (.lst xs) from I1.hok x _ hx)
    refine call_enumerate_1 hg fun h' b1 b2 b3 b4 => ?_
    have I2 : Inv X pins σ H1 { s1 with heap := h' } := I1.kept (t' := s1.toks) b4
    refine wpAny_pyIter_enum (s := { s1 with heap := h' }) b1 ⟨_, _, _, _, H1, rfl, I2, turn_enum (Nat.ne_of_gt (Nat.lt_succ_self _)), ⟨⟨_, b1⟩, b2⟩, fun c hc => ?_, q⟩
    have hc' : s1.heap.objs.size ≤ c := by
      simp only [List.mem_cons, List.not_mem_nil, or_false] at hc
      rcases hc with rfl | rfl
      · exact Nat.le_add_right _ _
      · exact Nat.le_refl _
    exact I1.fpOk hc' (I1.hok.fresh hc')
end
end L2

set_option Elab.async false
set_option linter.all false
set_option maxRecDepth 100000
namespace L2
open PySem PySem.Spec PyProof.Rows
section
variable {prog : Program} {w : World} {A : Around} {E : Value → Shared → Prop} {s : Shared}
theorem min_raw {l : Addr} {vs : List Value} {ns : List Int} {Q : Value → Shared → Prop} (hh : A.handled = none) (hl : s.heap.IsList l vs.toArray) (hi : IntsAre vs ns) (hne : 0 < ns.length)
    (h : ∀ h' M (t : Tok) tk, (∀ b o, s.heap.get? b = some o → h'.get? b = some o) → M ∈ ns → (∀ a, a ∈ ns → M ≤ a) → Q (.int M t) { s with heap := h', toks := tk }) : wpAny (model prog w) A (call (.builtin "min") [.ref l]) Q E s := by
  obtain ⟨xs, e⟩ := hi.allInts.items
  have hns : ns = xs.toList.map (·.1) := by
    rw [← hi.numsOf, ← nums_intItems, ← e]
  have hsz : 0 < xs.size := by
    have h3 := hne; rw [hns, List.length_map, Array.length_toList] at h3; exact h3
  rw [e] at hl
  refine min_intList hh hl hsz fun v h' tk hv hk => ?_
  obtain ⟨t, rfl⟩ := intItems_at hv
  obtain ⟨h1, h2⟩ := argBest_lt (numAt xs) (xs.size - 1)
  refine h _ _ t tk hk ?_ fun a ha => ?_
  · rw [hns, numAt_eq]; exact PySem.getD_mem (by rw [List.length_map, Array.length_toList]; omega)
  · rw [hns] at ha
    obtain ⟨j, hj, rfl⟩ := mem_getD ha
    rw [List.length_map, Array.length_toList] at hj
    rw [← numAt_eq]; exact h2 j (by omega)
theorem max_raw {l : Addr} {vs : List Value} {ns : List Int} {Q : Value → Shared → Prop} (hh : A.handled = none) (hl : s.heap.IsList l vs.toArray) (hi : IntsAre vs ns) (hne : 0 < ns.length)
    (h : ∀ h' M (t : Tok) tk, (∀ b o, s.heap.get? b = some o → h'.get? b = some o) → M ∈ ns → (∀ a, a ∈ ns → a ≤ M) → Q (.int M t) { s with heap := h', toks := tk }) : wpAny (model prog w) A (call (.builtin "max") [.ref l]) Q E s := by
  obtain ⟨xs, e⟩ := hi.allInts.items
  have hns : ns = xs.toList.map (·.1) := by
    rw [← hi.numsOf, ← nums_intItems, ← e]
  have hsz : 0 < xs.size := by
    have h3 := hne; rw [hns, List.length_map, Array.length_toList] at h3; exact h3
  rw [e] at hl
  refine max_intList hh hl hsz fun v h' tk hv hk => ?_
  obtain ⟨t, rfl⟩ := intItems_at hv
  obtain ⟨h1, h2⟩ := argBest_gt (numAt xs) (xs.size - 1)
  refine h _ _ t tk hk ?_ fun a ha => ?_
  · rw [hns, numAt_eq]; exact PySem.getD_mem (by rw [List.length_map, Array.length_toList]; omega)
  · rw [hns] at ha
    obtain ⟨j, hj, rfl⟩ := mem_getD ha
    rw [List.length_map, Array.length_toList] at hj
    rw [← numAt_eq]; exact h2 j (by omega)
theorem sum_raw {l : Addr} {vs : List Value} {ns : List Int} {Q : Value → Shared → Prop} (hh : A.handled = none) (hl : s.heap.IsList l vs.toArray) (hi : IntsAre vs ns)
    (h : ∀ h' tk t', (∀ b o, s.heap.get? b = some o → h'.get? b = some o) → Q (.int ns.sum t') { s with heap := h', toks := tk }) : wpAny (model prog w) A (call (.builtin "sum") [.ref l]) Q E s := by
  obtain ⟨xs, hx⟩ := hi.allInts.items
  have hl' : s.heap.IsList l (intItems xs) := hx ▸ hl
  refine sum_intListG hh hl' fun h' tk t' hk => ?_
  have e1 : ns = xs.toList.map (·.1) := by
    rw [← nums_intItems, ← hx]
    exact (show numsOf vs.toArray.toList = ns from hi.numsOf).symm
  have e2 : preSum (numAt xs) xs.size = ns.sum := by
    rw [preSum_eq, List.take_of_length_le (by simp), e1]
  rw [e2]
  exact h h' tk t' hk
end
def rSum (K : PySem.W.Frag) : List V → Hp → VK → Prop := fun xs H Q => ∃ p ns, xs = [.ref p] ∧ SqL K H p (iL ns) ∧ Q (.int ns.sum) H
def rMin (K : PySem.W.Frag) : List V → Hp → VK → Prop := fun xs H Q => (∃ i j, xs = [.int i, .int j] ∧ Q (.int (if j < i then j else i)) H) ∨ ∃ p ns, xs = [.ref p] ∧ SqL K H p (iL ns) ∧ 0 < ns.length ∧ ∀ m, m ∈ ns → (∀ a ∈ ns, m ≤ a) → Q (.int m) H
def rMax (K : PySem.W.Frag) : List V → Hp → VK → Prop := fun xs H Q => (∃ i j, xs = [.int i, .int j] ∧ Q (.int (if j > i then j else i)) H) ∨ ∃ p ns, xs = [.ref p] ∧ SqL K H p (iL ns) ∧ 0 < ns.length ∧ ∀ m, m ∈ ns → (∀ a ∈ ns, a ≤ m) → Q (.int m) H
def rSorted (K : PySem.W.Frag) : List V → Hp → VK → Prop := fun xs H Q => ∃ p ns, xs = [.ref p] ∧ SqL K H p (iL ns) ∧ ns.length < 64 ∧ ∀ l ms, H l = none → ms.Perm ns → ms.Pairwise (· ≤ ·) → Q (.ref l) (upd H l (.lst (iL ms)))
section
variable {X : Cx}
theorem call_sumN (hc : X.calm = true) : CallR X (.builtin "sum") (rSum X.K) := by
  intro pins s σ H xs us Q I r h
  obtain ⟨p, ns, rfl, hq, q⟩ := h
  obtain ⟨u, rfl, ru⟩ := vals1 r
  cases ru
  obtain ⟨its, rv, pl, hz⟩ := I.list hq
  exact sum_raw (I.ok.hd hc) pl.isList (intsAre_of rv) fun h' tk t' hk => ⟨.int _, H, I.kept (t' := tk) hk, ⟨_, rfl⟩, q⟩
theorem call_minN (hc : X.calm = true) : CallR X (.builtin "min") (rMin X.K) := by
  intro pins s σ H xs us Q I r h
  rcases h with h | ⟨p, ns, rfl, hq, hne, q⟩
  · exact call_min2 hc pins s σ H xs us Q I r h
  · obtain ⟨u, rfl, ru⟩ := vals1 r
    cases ru
    obtain ⟨its, rv, pl, hz⟩ := I.list hq
    exact min_raw (I.ok.hd hc) pl.isList (intsAre_of rv) hne fun h' M t tk hk h1 h2 => ⟨.int M, H, I.kept (t' := tk) hk, ⟨_, rfl⟩, q M h1 h2⟩
theorem call_maxN (hc : X.calm = true) : CallR X (.builtin "max") (rMax X.K) := by
  intro pins s σ H xs us Q I r h
  rcases h with h | ⟨p, ns, rfl, hq, hne, q⟩
  · exact call_max2 hc pins s σ H xs us Q I r h
  · obtain ⟨u, rfl, ru⟩ := vals1 r
    cases ru
    obtain ⟨its, rv, pl, hz⟩ := I.list hq
    exact max_raw (I.ok.hd hc) pl.isList (intsAre_of rv) hne fun h' M t tk hk h1 h2 => ⟨.int M, H, I.kept (t' := tk) hk, ⟨_, rfl⟩, q M h1 h2⟩
end
section
variable {K : PySem.W.Frag} {H : Hp} {Q : VK} {p : Addr} {ns : List Int} {i j : Int}
theorem i_sum (h : SqL K H p (iL ns)) (q : Q (.int ns.sum) H) : rSum K [.ref p] H Q := ⟨p, ns, rfl, h, q⟩
theorem i_max2 (q : ∀ m, m = max i j → Q (.int m) H) : rMax K [.int i, .int j] H Q := .inl ⟨i, j, rfl, q _ (by split <;> omega)⟩
theorem i_minL (h : SqL K H p (iL ns)) (hn : 0 < ns.length) (q : ∀ m, m ∈ ns → (∀ a ∈ ns, m ≤ a) → Q (.int m) H) : rMin K [.ref p] H Q := .inr ⟨p, ns, rfl, h, hn, q⟩
theorem i_maxL (h : SqL K H p (iL ns)) (hn : 0 < ns.length) (q : ∀ m, m ∈ ns → (∀ a ∈ ns, a ≤ m) → Q (.int m) H) : rMax K [.ref p] H Q := .inr ⟨p, ns, rfl, h, hn, q⟩
end

/-! ### loops over zip, enumerate; comprehensions by an invariant -/
section
variable {K : PySem.W.Frag} {g : TG} {tb : TS} {D : Ends} {σ : St} {H : Hp}
/-- both lists of ints, as long as the shorter one -/
theorem lp_zip {a b : Addr} {xs ys : List V} (Pv : Nat → St → Hp → Prop) (h0 : Pv 0 σ H) (hl : ∀ i σ H, Pv i σ H → SqL K H a xs ∧ SqL K H b ys)
    (hs : ∀ i x y T σ H, xs[i]? = some x → ys[i]? = some y → Pv i σ H → H T = none → g (.ref T) σ (upd H T (.tup [x, y])) fun σ2 H2 => tb { D with nx := Pv (i + 1), ct := Pv (i + 1), bk := D.nx } σ2 H2)
    (hd : ∀ σ H, Pv (min xs.length ys.length) σ H → D.nx σ H) : LoopI (Itz K a b) g tb D σ H := by
  refine ⟨fun i m σ H => m = min xs.length ys.length - i ∧ i ≤ min xs.length ys.length ∧ Pv i σ H, ⟨_, rfl, Nat.zero_le _, h0⟩, ?_⟩
  rintro i m σ H ⟨rfl, hi, p⟩
  obtain ⟨q1, q2⟩ := hl i σ H p
  by_cases hlt : i < min xs.length ys.length
  · have l1 : i < xs.length := by omega
    have l2 : i < ys.length := by omega
    refine .inr ⟨⟨xs, ys, xs[i], ys[i], q1, q2, by simp [l1], by simp [l2]⟩, Pv (i + 1), fun σ' H' p' => ⟨_, by omega, rfl, hlt, p'⟩, fun x H' y => ?_⟩
    obtain ⟨T, x1, y1, rfl, hT, rfl, ex, ey⟩ := y
    exact hs i x1 y1 T σ H (ex xs q1) (ey ys q2) p hT
  · have e : i = min xs.length ys.length := by omega
    refine .inl ⟨⟨xs, ys, q1, q2, by omega⟩, hd σ H (by rw [← e]; exact p)⟩
end
section
variable {K : PySem.W.Frag} {g : TG} {ti : TT} {te : TE} {σc : St} {H : Hp} {Q : VK}
theorem cp_list {a : Addr} {xs : List V} (Pv : Nat → List V → Hp → Prop) (h0 : Pv 0 [] H) (hl : ∀ i ys H, Pv i ys H → SqL K H a xs ∧ ys.length ≤ i) (hx : xs.length < sizeLine)
    (hs : ∀ i x ys H, xs[i]? = some x → Pv i ys H → g x σc H fun σ2 H2 => ti σ2 H2 fun b H3 => if b = true then te σ2 H3 fun y H4 => Pv (i + 1) (ys ++ [y]) H4 else Pv (i + 1) ys H3)
    (hd : ∀ l ys H, Pv xs.length ys H → H l = none → Q (.ref l) (upd H l (.lst ys))) : CompI (Itl K a) g ti te σc H Q := by
  refine ⟨fun i m ys H => m = xs.length - i ∧ i ≤ xs.length ∧ Pv i ys H, ⟨_, rfl, Nat.zero_le _, h0⟩, ?_⟩
  rintro i m ys H ⟨rfl, hi, p⟩
  obtain ⟨q, hy⟩ := hl i ys H p
  refine ⟨by omega, ?_⟩
  by_cases hlt : i < xs.length
  · refine .inr ⟨⟨xs, xs[i], q, by simp [hlt]⟩, Pv (i + 1), fun σ' H' p' => ⟨_, by omega, rfl, hlt, p'⟩, fun x H' y => ?_⟩
    obtain ⟨e, y⟩ := y
    subst e
    exact hs i x ys _ (y xs q) p
  · have e : i = xs.length := by omega
    subst e
    exact .inl ⟨⟨xs, q, Nat.le_refl _⟩, fun l hl => hd l ys H p hl⟩
theorem cp_range {lo : Int} {n : Nat} (Pv : Nat → List V → Hp → Prop) (h0 : Pv 0 [] H) (hl : ∀ i ys H, Pv i ys H → ys.length ≤ i) (hx : n < sizeLine)
    (hs : ∀ i ys H, i < n → Pv i ys H → g (.int (lo + i)) σc H fun σ2 H2 => ti σ2 H2 fun b H3 => if b = true then te σ2 H3 fun y H4 => Pv (i + 1) (ys ++ [y]) H4 else Pv (i + 1) ys H3)
    (hd : ∀ l ys H, Pv n ys H → H l = none → Q (.ref l) (upd H l (.lst ys))) : CompI (Itr lo n) g ti te σc H Q := by
  refine ⟨fun i m ys H => m = n - i ∧ i ≤ n ∧ Pv i ys H, ⟨_, rfl, Nat.zero_le _, h0⟩, ?_⟩
  rintro i m ys H ⟨rfl, hi, p⟩
  have hy := hl i ys H p
  refine ⟨by omega, ?_⟩
  by_cases hlt : i < n
  · refine .inr ⟨hlt, Pv (i + 1), fun σ' H' p' => ⟨_, by omega, rfl, hlt, p'⟩, fun x H' y => ?_⟩
    obtain ⟨e, y⟩ := y
    subst e y
    exact hs i ys _ hlt p
  · have e : i = n := by omega
    subst e
    exact .inl ⟨Nat.le_refl _, fun l hl => hd l ys H p hl⟩
theorem cp_zip {a b : Addr} {xs ys : List V} (Pv : Nat → List V → Hp → Prop) (h0 : Pv 0 [] H) (hl : ∀ i zs H, Pv i zs H → SqL K H a xs ∧ SqL K H b ys ∧ zs.length ≤ i) (hx : min xs.length ys.length < sizeLine)
    (hs : ∀ i x y T zs H, xs[i]? = some x → ys[i]? = some y → Pv i zs H → H T = none → g (.ref T) σc (upd H T (.tup [x, y])) fun σ2 H2 => ti σ2 H2 fun b H3 => if b = true then te σ2 H3 fun y H4 => Pv (i + 1) (zs ++ [y]) H4 else Pv (i + 1) zs H3)
    (hd : ∀ l zs H, Pv (min xs.length ys.length) zs H → H l = none → Q (.ref l) (upd H l (.lst zs))) : CompI (Itz K a b) g ti te σc H Q := by
  refine ⟨fun i m zs H => m = min xs.length ys.length - i ∧ i ≤ min xs.length ys.length ∧ Pv i zs H, ⟨_, rfl, Nat.zero_le _, h0⟩, ?_⟩
  rintro i m zs H ⟨rfl, hi, p⟩
  obtain ⟨q1, q2, hy⟩ := hl i zs H p
  refine ⟨by omega, ?_⟩
  by_cases hlt : i < min xs.length ys.length
  · have l1 : i < xs.length := by omega
    have l2 : i < ys.length := by omega
    refine .inr ⟨⟨xs, ys, xs[i], ys[i], q1, q2, by simp [l1], by simp [l2]⟩, Pv (i + 1), fun σ' H' p' => ⟨_, by omega, rfl, hlt, p'⟩, fun x H' y => ?_⟩
    obtain ⟨T, x1, y1, rfl, hT, rfl, ex, ey⟩ := y
    exact hs i x1 y1 T zs H (ex xs q1) (ey ys q2) p hT
  · have e : i = min xs.length ys.length := by omega
    exact .inl ⟨⟨xs, ys, q1, q2, by omega⟩, fun l hl => hd l zs H (by rw [← e]; exact p) hl⟩
end
end L2
namespace L2
open PySem PySem.Spec PyProof.Rows
theorem fr_nil {X : Cx} {sc : Scope} : FrOk X sc [] [] := trivial
theorem fr_none {X : Cx} {sc : Scope} {x : Str} {N : List Str} {fr : List (Option Nat)} (h : FrOk X sc N fr) : FrOk X sc (x :: N) (none :: fr) := h
theorem fr_some {X : Cx} {sc : Scope} {x : Str} {N : List Str} {fr : List (Option Nat)} {j : Nat} (h1 : X.N[j]? = some x) (h2 : X.env.kindOf x = some .cell ∨ X.env.kindOf x = some .free) (h3 : sc.names.lookup x = some .free) (h : FrOk X sc N fr) : FrOk X sc (x :: N) (some j :: fr) := ⟨⟨h1, h2, h3⟩, h⟩
theorem pe_globI {X : Cx} {x : Str} {n : Int} {pos : Pos} (h : ∃ t, X.mg x = some (.int n t)) (hg : Gl X x) (hd : (x == ("__debug__" : Str)) = false := by decide) : PE X (.Name x pos) (tC (.int n)) := by
  obtain ⟨t, h⟩ := h
  exact pe_glob hg h ⟨t, rfl⟩ hd
end L2
namespace L2
open PySem PySem.Spec PyProof.Rows
/-! ### the same rules with K said apart (a block's context hides it) -/
section
variable {X : Cx} (K : PySem.W.Frag) {tg l : Expr} {tl : TE} {pos p : Pos}
theorem op_eqK (hu : X.A.units + 64 < cLine) (hK : X.K = K := by rfl) : OpR X (compareOp .Eq) (rEqP K) := by subst hK; exact op_eqP hu
theorem op_neK (hu : X.A.units + 64 < cLine) (hK : X.K = K := by rfl) : OpR X (compareOp .NotEq) (rNeP K) := by subst hK; exact op_neP hu
theorem ix_K (hK : X.K = K := by rfl) : IxR X (rIxP K) := by subst hK; exact ix_P
theorem sl_listK (hK : X.K = K := by rfl) : SlR X (rSlL K) := by subst hK; exact sl_list
theorem call_lenK (hK : X.K = K := by rfl) : CallR X (.builtin "len") (rLen K) := by subst hK; exact call_lenN
theorem call_sumK (hc : X.calm = true := by rfl) (hK : X.K = K := by rfl) : CallR X (.builtin "sum") (rSum K) := by subst hK; exact call_sumN hc
theorem call_minK (hc : X.calm = true := by rfl) (hK : X.K = K := by rfl) : CallR X (.builtin "min") (rMin K) := by subst hK; exact call_minN hc
theorem call_maxK (hc : X.calm = true := by rfl) (hK : X.K = K := by rfl) : CallR X (.builtin "max") (rMax K) := by subst hK; exact call_maxN hc
theorem call_intK : CallR X (.type "int") rIntOf := call_intN
theorem call_absK : CallR X (.builtin "abs") rAbs := call_absN
theorem pi_listK (hl : PE X l tl) (hK : X.K = K := by rfl) : PI X tg l (iList K tl) := by subst hK; exact pi_list hl
theorem pi_zip2K {elts : List Expr} {kk : Nat} {tp : Pos} {a b : Expr} {ta : TA} (hg : Gl X "zip") (hm : X.mg "zip" = none) (ha : PA X [a, b] ta) (hs : starEach [a, b] X.env = [(false, eval a X.env), (false, eval b X.env)] := by rfl) (hs2 : starEach [b] X.env = [(false, eval b X.env)] := by rfl) (hK : X.K = K := by rfl) :
    PI X (.Tuple elts kk tp) (.Call (.Name "zip" p) [a, b] [] pos) (iZip2 K ta) := by subst hK; exact pi_zip2 hg hm ha hs hs2
theorem pi_enumerate1K {elts : List Expr} {kk : Nat} {tp : Pos} {a : Expr} {ta : TA} (hg : Gl X "enumerate") (hm : X.mg "enumerate" = none) (ha : PA X [a] ta) (hs : starEach [a] X.env = [(false, eval a X.env)] := by rfl) (hK : X.K = K := by rfl) :
    PI X (.Tuple elts kk tp) (.Call (.Name "enumerate" p) [a] [] pos) (iEnum K ta) := by subst hK; exact pi_enumerate1 hg hm ha hs
theorem pg_tupK {es : List Expr} {k : Nat} {t : TGs} (n : Nat) (h : PGs X es t) (hc : X.calm = true := by rfl) (hn : (assignEach es X.env).length = n := by rfl) (hst : (assignEach es X.env).findIdx? (·.1) = none := by rfl) (hK : X.K = K := by rfl) : PG X (.Tuple es k pos) (gTup K n t) := by
  subst hK; exact pg_tup hc h hn hst
theorem pt_truthK {a : Expr} {ta : TE} (ha : PE X a ta) (he : ∀ whole, isTrue a X.env whole = (do let v ← whole; standAt a.pos; holding [v] (truthy v)) := by intro _; rfl) (hK : X.K = K := by rfl) : PT X a (tTru K ta) := by
  subst hK; exact pt_truthN ha he
theorem pe_bmK {o e : Expr} {es : List Expr} {to : TE} {t : TA} {name : Str} {apos cpos : Pos} {T id : String} {r : V → List V → Hp → VK → Prop} (pa : PlainAttrs T) (slot : Slot T name id) (hty : typeOf (.builtin id) = pure (.type "method_descriptor")) (hm : MtR X id r) (ho : PE X o to) (ha : PA X (e :: es) t)
    (hbase : attributeBase o name X.env (eval o X.env) = eval o X.env := by rfl)
    (hfew : ((backTo cpos (starEach (e :: es) X.env)).all (fun x => !x.1) && (backToKw cpos (keywordEach [] X.env)).all (fun x => x.1.isSome)
      && decide ((e :: es).length + ([] : List Keyword).length + (if ([] : List Keyword).isEmpty then 0 else 1) < 30)) = true := by rfl)
    (hline : (apos.endLine == cpos.line) = true := by rfl) (hs : starEach (e :: es) X.env = (false, eval e X.env) :: starEach es X.env := by rfl) (hplain : (backTo cpos (starEach es X.env)).any (·.1) = false := by rfl) (hK : X.K = K := by rfl) :
    PE X (.Call (.Attribute o name apos) (e :: es) [] cpos) (tBM K T r to t) := by
  subst hK; exact pe_bm pa slot hty hm ho ha hbase hfew hline hs hplain
end
end L2
namespace L2
open PySem PySem.Spec PyProof.Rows
section
variable {K : PySem.W.Frag} {H : Hp} {Q : VK} {n : Nat}
theorem pd_tup {t : Addr} {ds : List PyData} {xs : List V} (h : SqT K H t xs) (p : Paired (PdAt K H n) ds xs) : PdAt K H (n + 1) (.tuple ds) (.ref t) := ⟨t, xs, rfl, h, p⟩
theorem pd_lst {t : Addr} {ds : List PyData} {xs : List V} (h : SqL K H t xs) (p : Paired (PdAt K H n) ds xs) : PdAt K H (n + 1) (.list ds) (.ref t) := ⟨t, xs, rfl, h, p⟩
theorem i_neSame {x y : V} (d : PyData) (hx : PdAt K H 9 d x) (hy : PdAt K H 9 d y) (q : Q (.bl false) H) : rNeP K x y H Q := ⟨d, d, hx, hy, by
  rw [PySem.SeqAt.eqv_refl d (pd_shape 9 d x hx).1]; exact q⟩
end
end L2
namespace L2
open PySem PySem.Spec PyProof.Rows
end L2


set_option Elab.async false
set_option linter.all false
set_option maxRecDepth 100000
namespace L2
open PySem PySem.Spec PyProof.Rows
/-- lo, lo - 1, .. (n of them) -/
def Itd (lo : Int) (n : Nat) : It := ⟨fun i _ => i < n, fun i H x H' => H' = H ∧ x = .int (lo - i), fun i _ => n ≤ i⟩
theorem turn_down {P : Program} {w : World} {K : PySem.W.Frag} {tg : Expr} (it : Addr) (lo : Int) (n : Nat) : Turn P w K tg (Itd lo n) [it] it (fun i h => IsRangeIter h it (lo + (i : Nat) * (-1)) ((n : Int) - (i : Nat)) (-1)) where
  mem := by simp
  obj := fun i h st b hb => by
    have e : b = it := by simpa using hb
    subst e
    exact ⟨_, st, fun v z => by
      have z' : Data.fields _ = Data.cell v := z
      cases z'⟩
  keep := fun i h h' st k => k it (by simp) _ st
  item := by
    intro X hP hw hK hc i pins s σ H E I hf st hg
    subst hP hw hK
    obtain ⟨f0, f1, f2, f3, f4, f5⟩ := hf it (by simp)
    have W := Walks.range (prog := X.prog) (w := X.w) (I.ok.hd hc) it lo (-1) n
    refine W.item i s _ _ hg st fun v h' tk hv st' kk => ?_
    obtain ⟨t, rfl⟩ := hv
    have I1 : Inv X pins σ H { s with heap := h', toks := tk } := I.turned (fun b o hb e => kk b o (by simpa using hb) e) f0 f1 f3 f4 f5
    refine ⟨_, rfl, go_of (s := { s with heap := h', toks := tk }) (n := "range_iterator") st' rfl rfl (by decide) ⟨.int (lo - i), H, I1, ⟨t, ?_⟩, ⟨rfl, rfl⟩, st', fun b hb => (hf b hb).1⟩⟩
    congr 1
    omega
  done := by
    intro X hP hw hK hc i pins s σ H E I hf st hg
    subst hP hw hK
    obtain ⟨f0, f1, f2, f3, f4, f5⟩ := hf it (by simp)
    exact wpAny_pyNext_range_end (I.ok.hd hc) st (by have : n ≤ i := hg; omega) fun h' eb => ⟨rfl, I.turned (t' := s.toks) (fun b o hb e => eb b o hb e) f0 f1 f3 f4 f5⟩
  self := fun _ _ _ _ _ st h => wpAny_pyIter_rangeiter st h
theorem rangeSize_down (a b : Int) : Builtin.Range.rangeSize a b (-1) = if a > b then a - b else 0 := by
  unfold Builtin.Range.rangeSize
  simp only [show ¬ ((-1 : Int) > 0) by decide, if_false, Int.neg_neg, Int.ediv_one]
  split <;> omega
theorem small_down {a b : Int} (ha : -(2 ^ 62) ≤ a) (ha' : a < 2 ^ 62) (hb : -(2 ^ 62) ≤ b) (hb' : b < 2 ^ 62) : Builtin.Range.small a b (-1) = true := by
  unfold Builtin.Range.small
  rw [rangeSize_down]
  simp only [Builtin.Range.rangeFitsLong, Bool.and_eq_true, Bool.or_eq_true, decide_eq_true_eq, beq_iff_eq, show ¬ ((-1 : Int) > 0) by decide, if_false]
  split <;> omega
section
variable {X : Cx} {tg : Expr}
theorem range_itd {pins : List (Addr × Obj)} {σ : St} {H : Hp} {s : Shared} {R : It → Hp → Prop} {E : Value → Shared → Prop} {lo hi : Int} {t u v : Tok} {tk : Nat} (I : Inv X pins σ H s) (h1 : -(2 ^ 62) ≤ lo) (h2 : lo < 2 ^ 62) (h3 : -(2 ^ 62) ≤ hi) (h4 : hi < 2 ^ 62)
    (q : R (Itd lo (lo - hi).toNat) H) : wpAny (model X.prog X.w) X.A (pyIter (.ref s.heap.objs.size)) (PIE X pins σ tg R) E { s with heap := s.heap.push { cls := .type "range", data := .fields #[.int lo t, .int hi u, .int (-1) v] }, toks := tk } := by
  refine wpAny_pyIter_range (IsRange.new ..) (small_down h1 h2 h3 h4) ?_
  have I1 : Inv X pins σ H { s with heap := s.heap.push { cls := .type "range", data := .fields #[.int lo t, .int hi u, .int (-1) v] }, toks := tk } := I.kept fun b o e => Heap.get?_push_of_some _ e
  refine ⟨(s.heap.push { cls := .type "range", data := .fields #[.int lo t, .int hi u, .int (-1) v] }).objs.size, [(s.heap.push { cls := .type "range", data := .fields #[.int lo t, .int hi u, .int (-1) v] }).objs.size], _, _, H, rfl,
    I1.kept (t' := tk) fun b o e => Heap.get?_push_of_some _ e, turn_down _ lo (lo - hi).toNat, ?_, fun b hb => ?_, q⟩
  · have e1 : lo + ((0 : Nat) : Int) * (-1) = lo := by simp
    have e2 : (((lo - hi).toNat : Nat) : Int) - ((0 : Nat) : Int) = Builtin.Range.rangeSize lo hi (-1) := by rw [rangeSize_down]; split <;> omega
    show IsRangeIter _ _ (lo + ((0 : Nat) : Int) * (-1)) ((((lo - hi).toNat : Nat) : Int) - ((0 : Nat) : Int)) (-1)
    rw [e1, e2]
    exact Heap.get?_push_size _ rfl
  · have e : b = (s.heap.push { cls := .type "range", data := .fields #[.int lo t, .int hi u, .int (-1) v] }).objs.size := by simpa using hb
    subst e
    exact I1.fpOk (Nat.le_refl _) (I1.hok.fresh (Nat.le_refl _))
def iRng3 (ta : TA) : TI := fun σ H R => ta σ H fun vs H1 => ∃ i j : Int, vs = [.int i, .int j, .int (-1)] ∧ (-(2 ^ 62) ≤ i ∧ i < 2 ^ 62 ∧ -(2 ^ 62) ≤ j ∧ j < 2 ^ 62) ∧ R (Itd i (i - j).toNat) H1
theorem pi_range3 {a b c : Expr} {ta : TA} {p pos : Pos} (hg : Gl X "range") (hm : X.mg "range" = none) (ha : PA X [a, b, c] ta) (hs : starEach [a, b, c] X.env = [(false, eval a X.env), (false, eval b X.env), (false, eval c X.env)] := by rfl) (hs2 : starEach [b, c] X.env = [(false, eval b X.env), (false, eval c X.env)] := by rfl) :
    PI X tg (.Call (.Name "range" p) [a, b, c] [] pos) (iRng3 ta) := by
  intro pins s σ H R I h
  refine Call_ (ld_blt I hg hm boot_range (PyProof.Rows.callWith_type1 (thn (ha pos pins s σ H _ I h) fun us s1 ⟨vs, H1, I1, r1, q1⟩ => ?_) (by rw [hs, hs2]) (by rw [hs2]; rfl)))
  obtain ⟨i, j, e, ⟨q1, q2, q3, q4⟩, q⟩ := q1
  subst e
  cases r1 with
  | cons r rr =>
    cases rr with
    | cons r' rr =>
      cases rr with
      | cons r'' rr =>
        cases rr
        obtain ⟨t, rfl⟩ := r
        obtain ⟨t', rfl⟩ := r'
        obtain ⟨t'', rfl⟩ := r''
        exact call_range_3 (by decide) (range_itd I1 q1 q2 q3 q4 q) (.inl (PyProof.noPylong_small (by omega)))
end
section
variable {K : PySem.W.Frag} {g : TG} {tb : TS} {D : Ends} {σ : St} {H : Hp}
theorem lp_down {lo : Int} {n : Nat} (Pv : Nat → St → Hp → Prop) (h0 : Pv 0 σ H)
    (hs : ∀ i σ H, i < n → Pv i σ H → g (.int (lo - i)) σ H fun σ2 H2 => tb { D with nx := Pv (i + 1), ct := Pv (i + 1), bk := D.nx } σ2 H2) (hd : ∀ σ H, Pv n σ H → D.nx σ H) : LoopI (Itd lo n) g tb D σ H := by
  refine ⟨fun i m σ H => m = n - i ∧ i ≤ n ∧ Pv i σ H, ⟨n, by simp, Nat.zero_le _, h0⟩, ?_⟩
  rintro i m σ H ⟨rfl, hi, p⟩
  by_cases hlt : i < n
  · refine .inr ⟨hlt, Pv (i + 1), fun σ' H' p' => ⟨n - (i + 1), by omega, rfl, hlt, p'⟩, fun x H' y => ?_⟩
    obtain ⟨e, y⟩ := y
    subst e y
    exact hs i σ _ hlt p
  · have e : i = n := by omega
    subst e
    exact .inl ⟨Nat.le_refl _, hd σ H p⟩
end
section
variable {X : Cx} (K : PySem.W.Frag)
/-- all of a list of truths -/
def rAll (K : PySem.W.Frag) : List V → Hp → VK → Prop := fun xs H Q => ∃ (p : Addr) (bs : List Bool), xs = [.ref p] ∧ SqL K H p (bs.map V.bl) ∧ Q (.bl (bs.all id)) H
/-- is, is not of truths -/
def rIsB (neg : Bool) : R2 := fun x y H Q => ∃ a b : Bool, x = .bl a ∧ y = .bl b ∧ Q (.bl (if neg then !decide (a = b) else decide (a = b))) H
theorem i_isB {a b : Bool} {H : Hp} {Q : VK} (q : Q (.bl (decide (a = b))) H) : rIsB false (.bl a) (.bl b) H Q := ⟨a, b, rfl, rfl, q⟩
theorem i_isNotB {a b : Bool} {H : Hp} {Q : VK} (q : Q (.bl (!decide (a = b))) H) : rIsB true (.bl a) (.bl b) H Q := ⟨a, b, rfl, rfl, q⟩
end
end L2

set_option Elab.async false
set_option linter.all false
set_option maxRecDepth 100000
/-! An exception on its way through the frames, with its own dict known to be none. -/
namespace L2
open PySem PySem.Spec PyProof.Rows
/-- the exception at e and the head of its trace -/
def TrD (h B : Heap) (e : Addr) (cls fl : Value) : Prop :=
  ∃ oe vs T oT ts, h.get? e = some oe ∧ (oe.cls = cls ∧ oe.dict = none) ∧ oe.data = .fields vs ∧ vs[1]? = some (.ref T) ∧ B.get? T = none ∧ T ≠ e ∧ h.get? T = some oT ∧ oT.data = .fields ts ∧ ts[3]? = some fl
structure FlyAt (B : Heap) (l : List Env) (e : Addr) (cls fl : Value) (h : Heap) : Prop where
  st : B.StaysIn h
  ne : B.get? e = none
  fr : h.FunFrames B l
  tr : TrD h B e cls fl
abbrev Fly (B : Heap) (l : List Env) (e : Addr) (cls : Value) (h : Heap) : Prop := FlyAt B l e cls .none h
section
variable {M : Model} {A : Around} {E : Value → Shared → Prop} {s : Shared} {B : Heap} {env : Env} {outer : List Env} {L e : Addr}
end
end L2

set_option Elab.async false
set_option linter.all false
set_option maxRecDepth 100000
/-! Exceptions over the layer: an exception that a call lets out, and how it leaves the frames. (Part of a road that is not finished: see NOTES.md.) -/
namespace L2
open PySem PySem.Spec PyProof.Rows
section
variable {P : Program} {w : World} {H : Hp} {h h' : Heap} {a : Addr} {o : HO}
end
/-- an exception behind a call: a new object e of class cls; B keeps all that was there but the frames -/
def CXE (P : Program) (w : World) : CXT := fun outer H s E v s' => ∃ (e : Addr) (cls : Value) (B : Heap) (H' : Hp), v = .ref e ∧ s'.os = s.os ∧ AllBare s'.gens ∧ Un (frs outer) [] H H' s.heap s'.heap ∧ HOk P w H' s'.heap ∧
  Fly B outer e cls s'.heap ∧ (∀ b o, s.heap.get? b = some o → b ∉ frs outer → ∃ o', B.get? b = some o') ∧ (∀ b, H' b ≠ none → ∃ o, B.get? b = some o) ∧ E cls none H'
section
variable {P : Program} {w : World} {K : PySem.W.Frag} {mg : Str → Option Value} {base : Heap} {N : List Str} {qual : Str} {scope : Scope} {f : Addr} {cd : Value} {A : Around} {outer : List Env} {s : Shared} {H : Hp} {E : XK}
end
end L2
namespace L2
open PySem PySem.Spec PyProof.Rows
/-! ### raise of an own class -/
/-- what holds of an own class under a built-in exception -/
structure ExcCls (K : PySem.W.Frag) (mg : Str → Option Value) (x : Str) (C : Addr) (bmB : List Value) (newId : String) : Prop where
  at_ : mg x = some (.ref C)
  obj : PySem.W.excIn K C bmB newId = true
/-- raise x(e, ..): E of the class -/
def tRaise (C : Addr) (E : XK) (t : TA) : TS := fun _ σ H => t σ H fun vs H1 => vs.length ≤ 3 ∧ E (.ref C) none H1
section
variable {P : Program} {w : World} {K : PySem.W.Frag} {mg : Str → Option Value} {base : Heap} {N : List Str} {qual : Str} {scope : Scope} {f : Addr} {cd : Value} {A : Around} {outer : List Env} {s : Shared} {H : Hp} {E : XK}
/-- a call of a def that may raise, in such a def -/
def CalleeE (P : Program) (w : World) (K : PySem.W.Frag) (mg : Str → Option Value) (base : Heap) (x : Str) (k : Nat) (sp : Sp) : Prop :=
  ∃ f fd ps, FnOk P w K mg base (CXE P w) k f fd ps sp ∧ mg x = some (.ref f) ∧ PySem.W.keepIn K (.ref f) = true ∧ Binds K fd ps []
end
end L2

set_option Elab.async false
set_option linter.all false
set_option maxRecDepth 100000
/-! A call within a try: the way of an exception up to the clause. (Not finished: the clause's suite, and calls within it, are to come; see NOTES.md.) -/
namespace L2
open PySem PySem.Spec PyProof.Rows
section
variable {X : Cx}
/-- the context within a try: what is pinned outside is kept, another wish -/
abbrev Cx.inTry (X : Cx) (pins : List (Addr × Obj)) (ξ : Value → Shared → Prop) : Cx := { X with pn := X.pn ++ pins, xe := ξ }
/-- a call whose exceptions may ask for the variables as they are -/
def tCallS (sp : Sp) (Ex : St → XK) (t : TA) : TE := fun σ H Q => t σ H fun vs H1 => sp (vs ++ []) H1 Q (Ex σ)
def PassS (X : Cx) (Ex : St → XK) : Prop := ∀ (pins : List (Addr × Obj)) (σ : St) (H : Hp) (s : Shared) (e : Value) (s' : Shared), Inv X pins σ H s → CXE X.prog X.w X.stack H s (Ex σ) e s' → X.xe e s'
/-- an exception object of the class cls lies at e -/
def ExcAt (e : Addr) (cls : Value) : Heap → Prop := fun h => ∃ o vs, h.get? e = some o ∧ o.cls = cls ∧ o.dict = none ∧ o.data = .fields vs
/-- within a clause: an exception is being handled, none is let out -/
abbrev Cx.inClause (X : Cx) (pins : List (Addr × Obj)) (e : Addr) : Cx := { X with A := X.A.mark (some (.ref e)), calm := false, pn := X.pn ++ pins, xe := fun _ _ => False }
/-- try: body, except T as x: suite (the suite ends of itself) -/
def tTry (K : PySem.W.Frag) (TC : Addr) (j : Nat) (tb : (St → XK) → TS) (ts : TS) : TS := fun D σ H =>
  tb (fun σ' cls _ H' => PySem.W.exmOne K cls (.ref TC) = some true ∧ ∀ e, H' e = none → ts { nx := fun σ2 H2 => D.nx (σ2.set j none) H2, rt := fun _ _ => False } (σ'.set j (some (.ref e))) (upd H' e (.ext (ExcAt e cls)))) D σ H
end
end L2

set_option Elab.async false
set_option linter.all false
set_option maxRecDepth 100000
/-! Calls within an except clause: a def's promise that does not ask that nothing is being handled. -/
namespace L2
open PySem PySem.Spec PyProof.Rows
/-- room for a call, whatever is being handled -/
structure RoomN (k : Nat) (A : Around) : Prop where
  dp : A.depth + 3 * k + 5 < recursionLimit
  un : A.units + 16 * k + 200 < cLine
structure FnOkN (P : Program) (w : World) (K : PySem.W.Frag) (mg : Str → Option Value) (base : Heap) (k : Nat) (f : Addr) (fd : FuncData) (ps : List Str) (sp : Sp) : Prop where
  len : ∀ vs H Q E, sp vs H Q E → vs.length = ps.length
  run : ∀ (A : Around) (outer : List Env) (s : Shared) (H : Hp) (args : Args) (us : List Value) (vs : List V) (Q : VK) (E : XK), RoomN k A → Env0 P w K mg base A outer s H → BindsTo s fd args (ps.zip us) → Vals vs us → sp vs H Q E →
    codeAny (model P w) A (.call (.ref f) args) (CR CX0 outer P w H s Q E) s
def CalleeN (P : Program) (w : World) (K : PySem.W.Frag) (mg : Str → Option Value) (base : Heap) (x : Str) (k : Nat) (sp : Sp) : Prop :=
  ∃ f fd ps, FnOkN P w K mg base k f fd ps sp ∧ mg x = some (.ref f) ∧ PySem.W.keepIn K (.ref f) = true ∧ Binds K fd ps []
/-- the context of such a def's body -/
abbrev cxN (P : Program) (w : World) (K : PySem.W.Frag) (mg : Str → Option Value) (base : Heap) (N : List Str) (qual : Str) (scope : Scope) (f : Addr) (cd : Value) (A : Around) (outer : List Env) (s : Shared) (H : Hp) (E : XK) : Cx :=
  { cxOf CX0 P w K mg base N qual scope f cd A outer s H E with calm := false, xe := fun _ _ => False }
section
variable {P : Program} {w : World} {K : PySem.W.Frag} {mg : Str → Option Value} {base : Heap}
end
section
variable {X : Cx}
end
end L2

set_option Elab.async false
set_option linter.all false
set_option maxRecDepth 100000
/-! isinstance of an exception of an own class. -/
namespace L2
open PySem PySem.Spec PyProof.Rows
/-- what isinstance asks of an own class -/
structure IsiCls (K : PySem.W.Frag) (D : Addr) : Prop where
  ga : PySem.W.findIn K (.ref D) "__getattribute__" = some (some (.builtin "BaseException.__getattribute__"))
  gt : PySem.W.findIn K (.ref D) "__getattr__" = some none
  mb : PySem.W.mroIn K D (.type "BaseException") = some true
  hd : PySem.W.hasDictIn K D = true
  ca : PySem.W.findIn K (.ref D) "__class__" = some (some (.builtin "object.__class__"))
  sp : PySem.W.specialIn K (.builtin "object.__class__") "__get__" = some (some (.builtin "getset_descriptor.__get__"))
  tk : PySem.W.takesIn K (.builtin "object.__class__") = some true
  mr : PySem.W.mroIn K D (.type "object") = some true
/-- isinstance(e, c): e an exception of an own class -/
def rIsiX (K : PySem.W.Frag) : List V → Hp → VK → Prop := fun xs H Q => ∃ (e D : Addr) (x : V) (c : Value) (b : Bool), xs = [.ref e, x] ∧ (∀ u, RelV x u → u = c) ∧ H e = some (.ext (ExcAt e (.ref D))) ∧ IsiCls K D ∧ PySem.W.kitOne K (.ref D) c = some b ∧ Q (.bl b) H
end L2

set_option Elab.async false
set_option linter.all false
set_option maxRecDepth 100000
namespace L2
open PySem PySem.Spec PyProof.Rows

/-! ### lists of pairs as tables -/
section
variable {κ : Type} [DecidableEq κ]
def valV (kvs : List (κ × V)) (k : κ) : Option V := (kvs.find? fun kv => decide (kv.1 = k)).map (·.2)
/-- in its place, or at the end -/
def putK (kvs : List (κ × V)) (k : κ) (v : V) : List (κ × V) :=
  if (kvs.any fun kv => decide (kv.1 = k)) = true then kvs.map (fun kv => if kv.1 = k then (kv.1, v) else kv) else kvs ++ [(k, v)]
def dropK (kvs : List (κ × V)) (k : κ) : List (κ × V) := kvs.filter fun kv => decide (kv.1 ≠ k)

theorem valV_pos {p : κ × V} {r : List (κ × V)} {k : κ} (e : p.1 = k) : valV (p :: r) k = some p.2 := by simp [valV, List.find?_cons, e]
theorem valV_neg {p : κ × V} {r : List (κ × V)} {k : κ} (e : ¬ p.1 = k) : valV (p :: r) k = valV r k := by simp [valV, List.find?_cons, e]
theorem valV_any (k : κ) : ∀ kvs : List (κ × V), (kvs.any fun kv => decide (kv.1 = k)) = (valV kvs k).isSome
  | [] => rfl
  | p :: r => by
    rw [List.any_cons]
    by_cases e : p.1 = k
    · simp only [valV_pos e, decide_eq_true e, Bool.true_or, Option.isSome_some]
    · rw [valV_neg e, decide_eq_false e, Bool.false_or]; exact valV_any k r
theorem valV_map (k j : κ) (y : V) : ∀ kvs : List (κ × V), valV (kvs.map fun kv => if kv.1 = k then (kv.1, y) else kv) j = (valV kvs j).map fun x => if j = k then y else x
  | [] => rfl
  | p :: r => by
    have ih := valV_map k j y r
    rw [List.map_cons]
    by_cases h : p.1 = k
    · rw [if_pos h]
      by_cases e : p.1 = j
      · rw [valV_pos (p := (p.1, y)) e, valV_pos e, Option.map_some, if_pos (e.symm.trans h)]
      · rw [valV_neg (p := (p.1, y)) e, valV_neg e, ih]
    · rw [if_neg h]
      by_cases e : p.1 = j
      · rw [valV_pos (p := p) e, valV_pos e, Option.map_some, if_neg (fun z => h (e.trans z))]
      · rw [valV_neg (p := p) e, valV_neg e, ih]
theorem valV_snoc (k j : κ) (y : V) : ∀ kvs : List (κ × V), valV kvs k = none → valV (kvs ++ [(k, y)]) j = if j = k then some y else valV kvs j
  | [], _ => by
    by_cases e : k = j
    · rw [if_pos e.symm]; exact valV_pos (p := (k, y)) e
    · rw [if_neg (fun z => e z.symm)]; exact valV_neg (p := (k, y)) e
  | p :: r, hn => by
    rw [List.cons_append]
    have hk : ¬ p.1 = k := fun z => by rw [valV_pos z] at hn; cases hn
    rw [valV_neg hk] at hn
    have ih := valV_snoc k j y r hn
    by_cases e : p.1 = j
    · rw [valV_pos e, valV_pos e, if_neg (fun z => hk (e.trans z))]
    · rw [valV_neg e, valV_neg e, ih]
theorem valV_put (kvs : List (κ × V)) (k j : κ) (y : V) : valV (putK kvs k y) j = if j = k then some y else valV kvs j := by
  unfold putK
  by_cases a : (kvs.any fun kv => decide (kv.1 = k)) = true
  · rw [if_pos a, valV_map]
    rw [valV_any] at a
    by_cases e : j = k
    · obtain ⟨x, hx⟩ := Option.isSome_iff_exists.mp a
      rw [if_pos e, e, hx, Option.map_some, if_pos rfl]
    · rw [if_neg e]
      cases valV kvs j with
      | none => rfl
      | some x => rw [Option.map_some, if_neg e]
  · rw [if_neg a]
    refine valV_snoc k j y kvs ?_
    rw [valV_any] at a
    cases q : valV kvs k with
    | none => rfl
    | some x => rw [q] at a; exact (a rfl).elim
theorem length_putK (kvs : List (κ × V)) (k : κ) (v : V) : (putK kvs k v).length ≤ kvs.length + 1 := by
  unfold putK
  split
  · rw [List.length_map]; omega
  · rw [List.length_append, List.length_cons, List.length_nil]; omega
/-- raw tables of the same keys -/
theorem KV.val {kvs : List (κ × V)} {vs : List (κ × Value)} (r : KV kvs vs) (k : κ) : RelO (valV kvs k) (valueAt vs k) := by
  unfold KV at r
  induction r with
  | nil => exact True.intro
  | @cons p q ps qs h t ih =>
    obtain ⟨h1, h2⟩ := h
    by_cases e : p.1 = k
    · have e' : q.1 = k := h1.symm.trans e
      have b : valueAt (q :: qs) k = some q.2 := by simp [valueAt, List.find?_cons, e']
      rw [valV_pos e, b]; exact h2
    · have e' : ¬ q.1 = k := fun z => e (h1.trans z)
      have b : valueAt (q :: qs) k = valueAt qs k := by simp [valueAt, List.find?_cons, e']
      rw [valV_neg e, b]; exact ih
theorem KV.any {kvs : List (κ × V)} {vs : List (κ × Value)} (r : KV kvs vs) (k : κ) : (kvs.any fun kv => decide (kv.1 = k)) = vs.any fun kv => decide (kv.1 = k) := by
  unfold KV at r
  induction r with
  | nil => rfl
  | cons h t ih => rw [List.any_cons, List.any_cons, ih, h.1]
theorem KV.repl {kvs : List (κ × V)} {vs : List (κ × Value)} (r : KV kvs vs) (k : κ) {y : V} {u : Value} (ry : RelV y u) :
    KV (kvs.map fun kv => if kv.1 = k then (kv.1, y) else kv) (vs.map fun kv => if kv.1 = k then (kv.1, u) else kv) := by
  unfold KV at r ⊢
  induction r with
  | nil => exact .nil
  | @cons p q ps qs h t ih =>
    rw [List.map_cons, List.map_cons]
    refine .cons ?_ ih
    obtain ⟨h1, h2⟩ := h
    by_cases e : p.1 = k
    · rw [if_pos e, if_pos (h1.symm.trans e)]; exact ⟨h1, ry⟩
    · rw [if_neg e, if_neg (fun z => e (h1.trans z))]; exact ⟨h1, h2⟩
theorem KV.put {kvs : List (κ × V)} {vs : List (κ × Value)} (r : KV kvs vs) (k : κ) {y : V} {u : Value} (ry : RelV y u) : KV (putK kvs k y) (stored vs k u) := by
  unfold putK stored
  rw [r.any k]
  by_cases e : (vs.any fun kv => decide (kv.1 = k)) = true
  · rw [if_pos e, if_pos e]; exact r.repl k ry
  · rw [if_neg e, if_neg e]; exact Paired.snoc r ⟨rfl, ry⟩
theorem KV.length {kvs : List (κ × V)} {vs : List (κ × Value)} (r : KV kvs vs) : kvs.length = vs.length := Paired.length r
end


/-! ### a tracked dict, its keys ints and texts or tuples of these -/
theorem kV_is {P : Program} {w : World} {k : Key} {u : Value} (r : RelV (kV k) u) : (mixKind P w).is k u = true := by
  cases k with
  | inl i => obtain ⟨t, e⟩ := (show ∃ t, u = Value.int i t from r); subst e; exact mixKind_int P w i t
  | inr x => obtain ⟨t, e⟩ := (show ∃ t, u = Value.str x t from r); subst e; exact mixKind_str P w x t
theorem items_are {P : Program} {w : World} : ∀ {ks : List Key} {us : List Value}, Vals (ks.map kV) us → ItemsAre (mixKind P w) ks us
  | [], _, r => by rw [List.map_nil] at r; cases r; exact .nil
  | k :: ks, _, r => by
    rw [List.map_cons] at r
    cases r with
    | cons h t => exact .cons (kV_is h) (items_are t)

/-- raw entries of a dict with tuple keys -/
abbrev KT (H : Hp) : List (List Key × V) → List (List Key × Addr × Value) → Prop := Paired fun p q => p.1 = q.1 ∧ H q.2.1 = some (.tup (p.1.map kV)) ∧ RelV p.2 q.2.2
theorem KT.val {H : Hp} {kvs : List (List Key × V)} {xs : List (List Key × Addr × Value)} (r : KT H kvs xs) (k : List Key) : RelO (valV kvs k) ((atKey xs k).map (·.2)) := by
  induction r with
  | nil => exact True.intro
  | @cons p q ps qs h t ih =>
    obtain ⟨h1, _, h2⟩ := h
    by_cases e : p.1 = k
    · have e' : q.1 = k := h1.symm.trans e
      have b : atKey (q :: qs) k = some q.2 := by simp [atKey, List.find?_cons, e']
      rw [valV_pos e, b]; exact h2
    · have e' : ¬ q.1 = k := fun z => e (h1.trans z)
      have b : atKey (q :: qs) k = atKey qs k := by simp [atKey, List.find?_cons, e']
      rw [valV_neg e, b]; exact ih
section
variable {P : Program} {w : World} {H : Hp} {h : Heap} {a : Addr}
theorem rd_of {u : HO} (ok : HOk P w H h) (e : Rd H a u) : ObjOk P w H h a u := e.ok ok
theorem dk_rd {kvs : List (Key × V)} (ok : HOk P w H h) (e : Rd H a (.dK kvs)) : kvs.length ≤ sizeLine ∧ (a == sysModules) = false ∧ ∃ vs, KV kvs vs ∧ h.DictOf (mixKind P w) a vs :=
  show ObjOk P w H h a (.dK kvs) from rd_of ok e
/-- a tracked tuple of ints and texts is a key -/
theorem key_of {ks : List Key} (ok : HOk P w H h) (e : H a = some (.tup (ks.map kV))) : (tupleKind (mixKind P w)).is h ks a := by
  obtain ⟨_, its, r, o, h1, h2, n, h3⟩ := (show ObjOk P w H h a (.tup (ks.map kV)) from ok a _ e)
  exact ⟨o, its.toArray, n, h1, h2, h3, by simpa using items_are r⟩
theorem dt_rd {kvs : List (List Key × V)} (ok : HOk P w H h) (e : Rd H a (.dT kvs)) : kvs.length ≤ sizeLine ∧ (a == sysModules) = false ∧
    ∃ xs, KT H kvs xs ∧ h.DictOfH (tupleKind (mixKind P w)) a xs := by
  obtain ⟨z, y, xs, r, o, es, ep, h1, h2, h3, h4, h5⟩ := (show ObjOk P w H h a (.dT kvs) from rd_of ok e)
  refine ⟨z, y, xs, r, o, es, ep, h1, h2, h3, h4, fun x hx => ?_, h5⟩
  have all : ∀ {l : List (List Key × V)} {m : List (List Key × Addr × Value)}, KT H l m → ∀ x ∈ m, (tupleKind (mixKind P w)).is h x.1 x.2.1 := by
    intro l m q
    induction q with
    | nil => intro x hx; exact nomatch hx
    | @cons p q ps qs hq t ih =>
      intro x hx
      rcases List.mem_cons.mp hx with e | hx
      · subst e
        exact key_of ok (by rw [← hq.1]; exact hq.2.1)
      · exact ih x hx
  exact all r x hx
end

/-- what the dict at a holds at the key y -/
def DGet (H : Hp) (a : Addr) (y : V) (r : Option V) : Prop :=
  (∃ kvs k, Rd H a (.dK kvs) ∧ y = kV k ∧ r = valV kvs k) ∨ ∃ kvs k b, Rd H a (.dT kvs) ∧ y = .ref b ∧ H b = some (.tup (k.map kV)) ∧ r = valV kvs k
/-- the heap behind a[y] = v -/
def DPut (H : Hp) (a : Addr) (y v : V) (H' : Hp) : Prop :=
  (∃ kvs k, H a = some (.dK kvs) ∧ y = kV k ∧ kvs.length < sizeLine ∧ H' = upd H a (.dK (putK kvs k v))) ∨
  ∃ kvs k b, H a = some (.dT kvs) ∧ y = .ref b ∧ H b = some (.tup (k.map kV)) ∧ kvs.length < sizeLine ∧ H' = upd H a (.dT (putK kvs k v))
theorem DGet.k {H : Hp} {a : Addr} {kvs : List (Key × V)} {k : Key} (e : H a = some (.dK kvs)) : DGet H a (kV k) (valV kvs k) := .inl ⟨kvs, k, .inl e, rfl, rfl⟩
section
variable {X : Cx} {pins : List (Addr × Obj)} {σ : St} {H : Hp} {s : Shared} {a : Addr} {y v : V} {u r : Value} {o : Option V} {A : Around} {E : Value → Shared → Prop}

theorem Inv.big (I : Inv X pins σ H s) : sysModules < s.heap.objs.size := by
  have h : mainGlobals < s.heap.objs.size := (I.mod.glob.keeps I.bk).lt
  exact Nat.lt_trans (by decide) h

/-- d[y], there -/
theorem d_getItem {Q : Value → Shared → Prop} (hu : A.units + 1 < cLine) (I : Inv X pins σ H s) (g : DGet H a y (some v)) (ry : RelV y u) (h : ∀ w' s', Inv X pins σ H s' → RelV v w' → Q w' s') :
    wpAny (model X.prog X.w) A (getItem (.ref a) u) Q E s := by
  rcases g with ⟨kvs, k, e, ey, l⟩ | ⟨kvs, k, b, e, ey, eb, l⟩
  · subst ey
    obtain ⟨z, hd, vs, rel, dd⟩ := dk_rd I.hok e
    obtain ⟨w', hw, rw'⟩ := RelO.some_of (v := v) (o := valueAt vs k) (by rw [l]; exact rel.val k)
    exact wpAny_getItem_of (kV_is ry) dd.mapOf hw (h w' _ (I.tok _) rw')
  · subst ey
    cases (show u = Value.ref b from ry)
    obtain ⟨z, hd, xs, rel, dd⟩ := dt_rd I.hok e
    obtain ⟨w', hw, rw'⟩ := RelO.some_of (v := v) (o := (atKey xs k).map (·.2)) (by rw [l]; exact rel.val k)
    obtain ⟨p, hp, hp2⟩ := Option.map_eq_some_iff.mp hw
    refine wpAny_getItem_heap (tupleKind_room_in1 hu) (key_of I.hok eb) dd hp ?_
    rw [hp2]
    exact h w' _ (I.tok _) rw'
end

section
variable {X : Cx} {pins : List (Addr × Obj)} {σ : St} {H : Hp} {s : Shared} {a : Addr} {kvs : List (Key × V)} {k : Key} {u : Value} {A : Around} {E : Value → Shared → Prop}
end


/-! ### readings and rules -/
/-- the element of a subscription, not a slice -/
def NoSl (i : Expr) : Prop := ∀ ov iv, subscripted i false ov iv = operate [ov, iv] (getItem ov iv)
theorem subD_of {prog : Program} {w : World} {A : Around} {E : Value → Shared → Prop} {s : Shared} {env : Env} {value slice : Expr} {pos : Pos} {T id : String} {Q : Value → Shared → Prop}
    (hl : typeLookup (.type T) "__getitem__" = pure (some (.builtin id))) (hs : NoSl slice)
    (h : wpAny (model prog w) A (eval value env) (fun o s₁ => wpAny (model prog w) A (eval slice env) (fun i s₂ => s₂.TypeIs o T ∧ wpAny (model prog w) A (getItem o i) Q E s₂) E s₁) E s) :
    wpAny (model prog w) A (eval (.Subscript value slice pos) env) Q E s := by
  refine Subscript_ (wpAny_mono h (fun o s₁ h₁ => wpAny_mono h₁ (fun i s₂ h₂ => ?_) fun _ _ x => x) fun _ _ x => x)
  obtain ⟨hT, h₂⟩ := h₂
  unfold subscriptTail
  refine wpAny_bind ?_
  rw [getitemInPython_of_ne hT.not_modules]
  refine wpAny_bind (wpAny_specialOf hT hl ?_)
  have fin : wpAny (model prog w) A (subscripted slice false o i) (fun r s₃ => wpAny (model prog w) A (letTemporaryGo value o r >>= fun _ => pure r) Q E s₃) E s₂ := by
    rw [hs o i]
    exact wpAny_operating (wpAny_mono h₂ (fun r s₃ h₃ => wpAny_bind (wpAny_letTemporaryGo (wpAny_pure h₃))) fun _ _ x => x)
  first
    | exact wpAny_pure (wpAny_bind fin)
    | exact wpAny_bind (wpAny_pure (wpAny_bind fin))
    | exact wpAny_bind fin

theorem dict_typeIs {X : Cx} {pins : List (Addr × Obj)} {σ : St} {H : Hp} {s : Shared} {a : Addr} {y : V} {o : Option V} (I : Inv X pins σ H s) (g : DGet H a y o) : s.TypeIs (.ref a) "dict" := by
  rcases g with ⟨kvs, k, e, _, _⟩ | ⟨kvs, k, b, e, _, _, _⟩
  · obtain ⟨_, _, vs, _, dd⟩ := dk_rd I.hok e
    exact dd.typeIs
  · obtain ⟨_, _, xs, _, dd⟩ := dt_rd I.hok e
    exact dd.typeIs
/-- d[y] -/
def tDGet (td ty : TE) : TE := fun σ H Q => td σ H fun x H1 => ty σ H1 fun y H2 => ∃ a v, x = .ref a ∧ DGet H2 a y (some v) ∧ Q v H2
/-- y in d, y not in d -/
def tDIn (ty td : TE) : TE := fun σ H Q => ty σ H fun y H1 => td σ H1 fun x H2 => ∃ a o, x = .ref a ∧ DGet H2 a y o ∧ Q (.bl o.isSome) H2
def tDNotIn (ty td : TE) : TE := fun σ H Q => ty σ H fun y H1 => td σ H1 fun x H2 => ∃ a o, x = .ref a ∧ DGet H2 a y o ∧ Q (.bl (!o.isSome)) H2
/-- d[y] = v -/
def sDPut (td ty tv : TE) : TS := fun D σ H => tv σ H fun v H1 => td σ H1 fun x H2 => ty σ H2 fun y H3 => ∃ a H4, x = .ref a ∧ DPut H3 a y v H4 ∧ D.nx σ H4
/-- d[y] op= v -/
def sDAug (td ty tv : TE) (rd : V → V → Hp → VK → Prop) : TS := fun D σ H => td σ H fun x H1 => ty σ H1 fun y H2 => ∃ a v, x = .ref a ∧ DGet H2 a y (some v) ∧
  tv σ H2 fun y2 H3 => rd v y2 H3 fun z H4 => ∃ H5, DPut H4 a y z H5 ∧ D.nx σ H5
/-- del d[y] -/
def sDDel (td ty : TE) : TS := fun D σ H => td σ H fun x H1 => ty σ H1 fun y H2 => ∃ a kvs k, x = .ref a ∧ H2 a = some (.dK kvs) ∧ y = kV k ∧ (valV kvs k).isSome = true ∧ D.nx σ (upd H2 a (.dK (dropK kvs k)))

section
variable {X : Cx} {o i e value : Expr} {pos pos' tpos : Pos} {td ty tv : TE}
theorem pe_dget (hu : X.A.units + 1 < cLine) (ho : PE X o td) (hi : PE X i ty) (hs : NoSl i) : PE X (.Subscript o i pos) (tDGet td ty) := by
  intro pins s σ H Q I h
  refine subD_of PySem.F.slot_dict_getitem.lookup hs (thn (ho pins s σ H _ I h) fun u s1 ⟨x, H1, I1, rx, q1⟩ => thn (hi pins s1 σ H1 _ I1 q1) fun iv s2 ⟨y, H2, I2, ry, a, v, ex, g, q2⟩ => ?_)
  subst ex
  obtain rfl : u = Value.ref a := rx
  exact ⟨dict_typeIs I2 g, d_getItem hu I2 g ry fun w' s3 I3 rw' => ⟨v, H2, I3, rw', q2⟩⟩
end


end L2

set_option Elab.async false
set_option linter.all false
set_option maxRecDepth 100000
/-! {key: value for ..}: a dict out of a comprehension of one clause -/
namespace L2
open PySem PySem.Spec PyProof.Rows
section
variable {prog : Program} {w : World} {A : Around} {E : Value → Shared → Prop} {R : Result → Shared → Prop} {s : Shared}
theorem compLoop_anyD {kx vx target iter : Expr} {ifs : List Expr} {scope : Scope} {pos : Pos} {it : Value} {D : Addr} {env : Env} (I : Nat → Shared → Prop)
    (turn : ∀ n s, I n s → wpAny (model prog w) A (pyNext it) (fun r s₁ => match r with
      | none => R (.ok .next) s₁
      | some v => wpAny (model prog w) A (letOwnedTupleGo target it v) (fun _ s₀ => wpAny (model prog w) A (assign target env v) (fun _ s₂ =>
          wpAny (model prog w) A (forIn ifs true fun c r => if r = true then do let ok ← isTrue c env (eval c env); pure (ForInStep.yield ok) else pure (ForInStep.yield r)) (fun ok s₃ =>
            if ok = true then wpAny (model prog w) A (eval kx env) (fun x s₄ => wpAny (model prog w) A (eval vx env) (fun y s₅ =>
              wpAny (model prog w) A (dictSet D x y) (fun _ s₆ => ∃ m, m < n ∧ I m s₆) (fun _ _ => False) s₅) (fun _ _ => False) s₄) (fun _ _ => False) s₃
            else ∃ m, m < n ∧ I m s₃) (fun _ _ => False) s₂) (fun _ _ => False) s₀) (fun _ _ => False) s₁) (fun _ _ => False) s)
    (n : Nat) (h : I n s) :
    codeAny (model prog w) A (.compLoop (.DictComp kx vx [⟨target, iter, ifs, 0⟩] scope pos) 0 it (.ref D) env) R s := by
  refine codeAny_loop rfl I (fun n s hI => ?_) n h
  show wpAny _ A ((compTurn (.DictComp kx vx [⟨target, iter, ifs, 0⟩] scope pos) 0 it (.ref D) env).onRaise (fun x => do noteFrame x env; theTreesLotGoes x)) _ _ s
  refine wpAny_noted ?_
  rw [compTurn_dict]
  have nf : ∀ {α : Type} {m : Sem α} {Q : α → Shared → Prop} {F : Value → Shared → Prop} {s : Shared}, wpAny (model prog w) A m Q (fun _ _ => False) s → wpAny (model prog w) A m Q F s := fun h => wpAny_mono h (fun _ _ x => x) fun _ _ x => x.elim
  refine wpAny_bind (wpAny_standAt (wpAny_bind (wpAny_mono (nf (turn n s hI)) (fun r s₁ h₁ => ?_) fun _ _ h' => h')))
  cases r with
  | none => exact wpAny_pure h₁
  | some v =>
    refine wpAny_bind (wpAny_mono (nf h₁) (fun _ s₀ h₀ => ?_) fun _ _ h' => h')
    refine wpAny_bind (wpAny_mono (nf h₀) (fun _ s₂ h₂ => wpAny_bind (wpAny_mono (nf h₂) (fun ok s₃ h₃ => ?_) fun _ _ h' => h')) fun _ _ h' => h')
    cases ok with
    | false => exact wpAny_pure ⟨rfl, h₃⟩
    | true =>
      refine wpAny_bind (wpAny_bind (wpAny_mono (nf h₃) (fun x s₄ h₄ => wpAny_bind (wpAny_holding (wpAny_mono (nf h₄) (fun y s₅ h₅ => wpAny_bind (wpAny_standAt (wpAny_holding (wpAny_mono (nf h₅) (fun _ s₆ h₆ => wpAny_pure ⟨rfl, h₆⟩) fun _ _ h' => h')))) fun _ _ h' => h'))) fun _ _ h' => h'))
end
def DCompI (J : It) (g : TG) (ti : TT) (tk tv : TE) (σc : St) (H1 : Hp) (Q : VK) : Prop := ∃ W : Nat → Nat → List (Key × V) → Hp → Prop, (∃ m, W 0 m [] H1) ∧ ∀ i m ys H, W i m ys H → ys.length < sizeLine ∧
  ((J.stop i H ∧ ∀ l, H l = none → Q (.ref l) (upd H l (.dK ys))) ∨ (J.go i H ∧ ∃ M : List (Key × V) → Hp → Prop, (∀ ys' H', M ys' H' → ∃ m', m' < m ∧ W (i + 1) m' ys' H') ∧
    ∀ x H', J.yld i H x H' → g x σc H' fun σ2 H2 => ti σ2 H2 fun b H3 => if b = true then tk σ2 H3 fun y H4 => ∃ k : Key, y = kV k ∧ tv σ2 H4 fun v H5 => M (putK ys k v) H5 else M ys H3))
def tDComp (fr : List (Option Nat)) (wi : TI) (g : TG) (ti : TT) (tk tv : TE) : TE := fun σ H Q => wi σ H fun J H1 => DCompI J g ti tk tv (stC fr σ) H1 Q
section
variable {X : Cx} {scope : Scope} {N : List Str} {fr : List (Option Nat)} {tg iter kx vx : Expr} {ifs : List Expr} {pos : Pos} {J : It} {g : TG} {ti : TT} {tk tv : TE}
theorem dcomp_core {pins : List (Addr × Obj)} {σ : St} {H : Hp} {s₂ : Shared} {it : Addr} {fp : List Addr} {tn : Nat → Heap → Prop} {Q : VK} {E : Value → Shared → Prop} (c : CompOk X scope N fr) (hc : X.calm = true) (I : Inv X pins σ H s₂)
    (T : Turn X.prog X.w X.K tg J fp it tn) (st : tn 0 s₂.heap) (hfp : ∀ b ∈ fp, FpOk X pins H b)
    (hg : ∀ C, PG (cxC X scope C N s₂ H fp) tg g) (hi : ∀ C, PIfs (cxC X scope C N s₂ H fp) ifs ti) (hk : ∀ C, PE (cxC X scope C N s₂ H fp) kx tk) (hv : ∀ C, PE (cxC X scope C N s₂ H fp) vx tv) (gw : GW fr g) (hq : DCompI J g ti tk tv (stC fr σ) H Q)
    {RR : Value → Addr → Result → Shared → Prop}
    (hRR : ∀ D C H' ys s', Inv X pins σ (upd H' D (.dK ys)) s' → Aside X pins (upd H' D (.dK ys)) C → (∃ m, s'.heap.Ns C m) → Q (.ref D) (upd H' D (.dK ys)) → RR (.ref D) C (.ok .next) s') :
    wpAny (model X.prog X.w) X.A newDict (fun acc s₃ => wpAny (model X.prog X.w) X.A (newFunctionEnv scope X.env.globals (clOf X.env scope.names []) [] X.env.qual none .none (some X.env)) (fun cenv s₄ =>
      codeAny (model X.prog X.w) X.A (.compStart (.DictComp kx vx [⟨tg, iter, ifs, 0⟩] scope pos) 0 (.ref it) acc { cenv with scope := relabel scope X.env }) (RR acc cenv.locals) s₄) E s₃) E s₂ := by
  refine wpAny_newObj_type (wpAny_newFunctionEnv c.ncell (by intro y hy; simp at hy) (fun h₁ hns₁ hsb₁ => ?_) c.kind)
  dsimp only at hns₁ hsb₁ ⊢
  generalize hH2 : s₂.heap.push { cls := .type "dict", dict := none, data := .dict #[] } = H2 at hns₁ hsb₁ ⊢
  have hC : H2.objs.size = s₂.heap.objs.size + 1 := by rw [← hH2, Heap.size_push]
  have hCle : s₂.heap.objs.size ≤ H2.objs.size := by rw [hC]; exact Nat.le_succ _
  have hDC : s₂.heap.objs.size ≠ H2.objs.size := by rw [hC]; exact Nat.ne_of_lt (Nat.lt_succ_self _)
  have old : ∀ b o, s₂.heap.get? b = some o → h₁.get? b = some o := fun b o e => hsb₁.extBut b o (by rw [hC]; exact Nat.ne_of_lt (Nat.lt_succ_of_lt (Heap.lt_size e))) (Heap.get?_push_of_some _ (hH2 ▸ Heap.get?_push_of_some _ e))
  have hacc : h₁.get? s₂.heap.objs.size = some { cls := .type "dict", dict := none, data := .dict #[] } := hsb₁.extBut _ _ hDC (Heap.get?_push_of_some _ (hH2 ▸ Heap.get?_push_size _ rfl))
  have hsys : sysModules < s₂.heap.objs.size := I.big
  have hdd : h₁.DictOf (mixKind X.prog X.w) s₂.heap.objs.size [] := ⟨_, #[], _, hacc, ⟨rfl, rfl, rfl⟩, rfl, by intro e he; simp at he, .nil, List.nodup_nil⟩
  generalize hD : s₂.heap.objs.size = D at *
  generalize hCC : H2.objs.size = C at *
  have hfp2 : ∀ b ∈ fp, FpOk X pins H b ∧ b < s₂.heap.objs.size := fun b hb => ⟨hfp b hb, by obtain ⟨o, e, _⟩ := T.obj _ _ st b hb; exact Heap.lt_size e⟩
  have hns₂ : h₁.Ns C fun _ => none := hns₁
  have I0 : Inv (cxC X scope C N s₂ H fp) [] (stC fr σ) H { s₂ with heap := h₁, toks := s₂.toks + ([] : List (Str × Value)).length } := comp_inv c I (by rw [hD]; exact hCle) hfp2 old hns₂
  have st₁ : tn 0 h₁ := T.keep _ _ _ st fun b hb o e => old b o e
  have hDn : ∀ b ∈ fp, b ≠ D := fun b hb => by rw [← hD]; exact Nat.ne_of_lt (hfp2 b hb).2
  -- what is true of the list that grows
  have dAs : ∀ {H' : Hp}, H' D = none → (D ≠ (cxC X scope C N s₂ H fp).env.locals ∧ (cxC X scope C N s₂ H fp).s₀.heap.objs.size ≤ D ∧ ∀ x a, (cxC X scope C N s₂ H fp).env.cells.lookup x = some a → a ≠ D) := fun hn => ⟨hDC, Nat.le_of_eq hD, fun x a e z => by
    obtain ⟨v, o, ho, _⟩ := I.cell x a (c.get I.ok e)
    have := Heap.lt_size ho
    rw [z, ← hD] at this
    exact Nat.lt_irrefl _ this⟩
  obtain ⟨W, ⟨m0, w0⟩, turn⟩ := hq
  have loop : codeAny (model X.prog X.w) X.A (.compLoop (.DictComp kx vx [⟨tg, iter, ifs, 0⟩] scope pos) 0 (.ref it) (.ref D) (compEnvC scope (clOf X.env scope.names []) C X.env)) (RR (.ref D) C) { s₂ with heap := h₁, toks := s₂.toks + ([] : List (Str × Value)).length } := by
    refine compLoop_anyD (fun n s' => ∃ i ys us H', Inv (cxC X scope C N s₂ H fp) [] (stC fr σ) H' s' ∧ tn i s'.heap ∧ (∀ b ∈ fp, H' b = none) ∧ s'.heap.DictOf (mixKind X.prog X.w) D us ∧ KV ys us ∧ H' D = none ∧ W i n ys H') ?_ m0
      ⟨0, [], [], H, I0, st₁, fun b hb => (hfp b hb).1, hdd, .nil, by rw [← hD]; exact I.hok.fresh (Nat.le_refl _), w0⟩
    rintro n s3 ⟨i, ys, us, H3, I3, st3, fr3, hDd3, rv3, hDn3, w3⟩
    obtain ⟨dob, es, ep, hD3, hex, hdat, hks, hprs, hnd⟩ := hDd3
    have asD : ∀ {h : Heap}, h.get? D = some dob → h.DictOf (mixKind X.prog X.w) D us := fun e => ⟨dob, es, ep, e, hex, hdat, hks, hprs, hnd⟩
    obtain ⟨hlen, alt⟩ := turn i n ys H3 w3
    obtain ⟨d1, d2, d3⟩ := dAs hDn3
    -- the list pinned
    have I3p : Inv (cxC X scope C N s₂ H fp) [(D, dob)] (stC fr σ) H3 s3 := I3.pins_of fun p hp => by
      have e : p = (D, dob) := by simpa using hp
      subst e
      refine ⟨hD3, hDn3, d1, fun z => ?_, fun v e => by rw [hdat] at e; cases e⟩
      have z' : D ∈ frs X.stack := z
      rcases List.mem_cons.mp (I.stkSub D z') with e | e
      · have := I.lt
        rw [← e, ← hD] at this
        exact Nat.lt_irrefl _ this
      · exact I.nofs (Nat.le_of_eq hD) e
    have stat : ∀ {H' : Hp}, (∀ b ∈ fp, H' b = none) → ∀ b ∈ fp, FpOk (cxC X scope C N s₂ H fp) [(D, dob)] H' b := fun hn b hb => by
      obtain ⟨q1, q2⟩ := hfp2 b hb
      refine ⟨hn b hb, Nat.ne_of_lt (Nat.lt_of_lt_of_le q2 (by rw [hD]; exact hCle)), fun z => ?_, .inl hb, fun x a e => q1.2.2.2.2.1 x a (c.get I.ok e), fun p hp => ?_⟩
      · exact (comp_ok c I (by rw [hD]; exact hCle) hfp2).exfs b hb z
      · have e : p = (D, dob) := by simpa [cxC] using hp
        subst e
        exact (hDn b hb).symm
    rcases alt with ⟨stop, qn⟩ | ⟨go, M, hM, step⟩
    · refine thn (T.done (cxC X scope C N s₂ H fp) rfl rfl rfl hc i _ s3 _ H3 _ I3p (stat fr3) st3 stop) fun r s4 ⟨hr, I4⟩ => ?_
      subst hr
      have pD := (I4.pin (D, dob) (by simp)).1
      have I4' : Inv (cxC X scope C N s₂ H fp) [] (stC fr σ) H3 s4 := I4.pins_of fun p hp => absurd hp (by simp)
      have IX : Inv X pins σ H3 s4 := I.call' I4'.os I4'.base I4'.hok I4'.bare fun b hb => by
        obtain ⟨q1, q2, q3, q4, q5, q6⟩ := hfp b hb
        exact ⟨q4, q2, q5, q6⟩
      have aD : Aside X pins H3 D := I.aside (Nat.le_of_eq hD) hDn3
      have IT : Inv X pins σ (upd H3 D (.dK ys)) s4 := IX.track hDn3 aD.ne aD.ab aD.cl aD.pn ⟨Nat.le_of_lt hlen, beq_eq_false_iff_ne.mpr (Ne.symm (Nat.ne_of_lt hsys)), us, rv3, asD pD⟩
      refine hRR D C H3 ys s4 IT ?_ ?_ (qn D hDn3)
      · refine I.aside (by rw [hD]; exact hCle) ?_
        rw [upd_ne (Ne.symm hDC)]
        exact I4'.free
      · obtain ⟨m, hm, _⟩ := I4'.loc
        exact ⟨m, hm⟩
    · refine thn (T.item (cxC X scope C N s₂ H fp) rfl rfl rfl hc i _ s3 _ H3 _ I3p (stat fr3) st3 go) fun r s4 ⟨u, hr, h4⟩ => ?_
      subst hr
      refine thn h4 fun _ s5 ⟨x, H5, I5, r5, y5, st5, fr5⟩ => ?_
      have I5' := I5.pinned (stat fr5) (T.obj _ _ st5)
      refine thn (hg C _ s5 _ H5 x u _ I5' r5 (gw x _ H5 _ _ (fun σ2 H2 wk q => And.intro wk q) (step x H5 y5))) fun _ s6 ⟨σ6, H6, I6, wk6, q6⟩ => ?_
      refine thn (hi C _ s6 σ6 H6 _ I6 q6) fun ok s7 ⟨H7, I7, q7⟩ => ?_
      have back : ∀ {σ8 : St} {H8 : Hp} {s8 : Shared}, σ8 = σ6 → Inv (cxC X scope C N s₂ H fp) ([(D, dob)] ++ pinsAt fp s5.heap) σ8 H8 s8 → Inv (cxC X scope C N s₂ H fp) [] (stC fr σ) H8 s8 ∧ tn (i + 1) s8.heap ∧ (∀ b ∈ fp, H8 b = none) ∧ s8.heap.get? D = some dob ∧ H8 D = none := fun {σ8 H8 s8} e8 I8 => by
        subst e8
        have pf : ∀ b o, b ∈ fp → s5.heap.get? b = some o → s8.heap.get? b = some o ∧ H8 b = none := fun b o hb e => by
          have := I8.pin (b, o) (List.mem_append_right _ (List.mem_append_right _ (mem_pinsAt hb e)))
          exact ⟨this.1, this.2.1⟩
        refine ⟨(I8.pins_of (pins' := []) fun p hp => absurd hp (by simp)).weak wk6.1.symm fun a v e => ?_, T.keep _ _ _ st5 fun b hb o e => (pf b o hb e).1, fun b hb => ?_, (I8.pin (D, dob) (by simp)).1, (I8.pin (D, dob) (by simp)).2.1⟩
        · obtain ⟨j, f1, _⟩ := stC_get e
          rw [wk6.2 a j f1]
          exact e
        · obtain ⟨o, e, _⟩ := T.obj _ _ st5 b hb
          exact (pf b o hb e).2
      cases ok with
      | false =>
        obtain ⟨m', hm, w7⟩ := hM _ _ (by simpa using q7)
        obtain ⟨a1, a2, a3, a4, a5⟩ := back rfl I7
        exact ⟨m', hm, i + 1, ys, us, H7, a1, a2, a3, asD a4, rv3, a5, w7⟩
      | true =>
        have q7' : tk σ6 H7 fun y H4 => ∃ k : Key, y = kV k ∧ tv σ6 H4 fun v H5 => M (putK ys k v) H5 := by simpa using q7
        refine thn (hk C _ s7 σ6 H7 _ I7 q7') fun kv s8 ⟨y, H8, I8, ry, kk, ey, q8⟩ => ?_
        subst ey
        refine thn (hv C _ s8 σ6 H8 _ I8 q8) fun vv s9 ⟨v, H9, I9, rv, q9⟩ => ?_
        obtain ⟨m', hm, w9⟩ := hM _ _ q9
        obtain ⟨a1, a2, a3, a4, a5⟩ := back rfl I9
        have hus : us.length ≤ sizeLine := by
          rw [← rv3.length]
          exact Nat.le_of_lt hlen
        refine wpAny_dictSet_pairs (kV_is ry) (asD a4) (fun h₅ hd₅ hs₅ => ?_) hus
        obtain ⟨e1, e2, e3⟩ := dAs a5
        exact ⟨m', hm, i + 1, putK ys kk v, _, H9, a1.turned (t' := s9.toks + 1) (fun b o hb e => (hs₅.2 b hb).trans e) a5 e1 (.inr e2) e3 (fun p hp => absurd (show p ∈ ([] : List (Addr × Obj)) from hp) (by simp)), T.keep _ _ _ a2 fun b hb o e => (hs₅.2 b (hDn b hb)).trans e, a3, hd₅, rv3.put kk rv, a5, w9⟩
  exact codeAny_compStart_dict loop (T.self _ _ _ _ _ st₁ loop)

theorem ps_setDC {wi : TI} {i : Nat} {x : Str} {pos' spos : Pos} (hN : X.N.Nodup) (hn : X.N[i]? = some x) (hx : Loc X.env.scope x) (c : CompOk X scope N fr) (hc : X.calm = true) (hi : PI X tg iter wi) (hg : ∀ C s₂ H fp, PG (cxC X scope C N s₂ H fp) tg g) (hf : ∀ C s₂ H fp, PIfs (cxC X scope C N s₂ H fp) ifs ti) (hk : ∀ C s₂ H fp, PE (cxC X scope C N s₂ H fp) kx tk) (hv : ∀ C s₂ H fp, PE (cxC X scope C N s₂ H fp) vx tv) (gw : GW fr g)
    (hsw : swapsWith (.DictComp kx vx [⟨tg, iter, ifs, 0⟩] scope pos) (some (.Name x pos')) spos.line X.env = pure true := by rfl) (hs : ∀ x, foldedSetIterable iter X.env x = pure x := by intro _; rfl)
    (hfl : X.fn x = true ∨ X.env.scope.names.lookup x = some .local := by first | exact .inl rfl | exact .inr rfl | assumption) :
    PS X (.Assign [.Name x pos'] (.DictComp kx vx [⟨tg, iter, ifs, 0⟩] scope pos) spos) (tAsg (tDComp fr wi g ti tk tv) (gName i)) := by
  intro pins s σ H Q I h
  rw [exec_Assign_Name_used _ _ _ _ hsw]
  refine wpAny_bind (wpAny_standAt (wpAny_bind ?_))
  show wpAny _ X.A (do let _ ← comprehension (.DictComp kx vx [⟨tg, iter, ifs, 0⟩] scope pos) scope X.env _ newDict false (eval iter X.env) (some (assign (.Name x pos') X.env))) _ _ s
  refine wpAny_bind (wpAny_mono (wpAny_comprehension_free (use := some (assign (.Name x pos') X.env)) (Q := fun _ s' => SP X pins Q .next s') rfl hs (closure_eq (c.cells I.ok)) c.kind c.names
    (thn (hi pins s σ H _ I h) fun v s1 h1 => thn h1 fun itv s2 h2 => ?_)) (fun _ s' hq => wpAny_pure (wpAny_pure hq)) fun _ _ e => e)
  obtain ⟨it, fp, tn, J, H2, e, I2, T, st2, f2, q⟩ := h2
  subst e
  refine dcomp_core (RR := fun acc C => compPost (model X.prog X.w) X.A X.xe (some (assign (.Name x pos') X.env)) (fun _ s' => SP X pins Q .next s') acc C) c hc I2 T st2 f2 (fun C => hg C _ _ _) (fun C => hf C _ _ _) (fun C => hk C _ _ _) (fun C => hv C _ _ _) gw q ?_
  intro D C H' ys s' IT as hm q
  obtain ⟨m, hm⟩ := hm
  show wpAny _ X.A (assign (.Name x pos') X.env (.ref D)) _ _ _
  refine wpAny_assign_Name (store_ok2 IT hN hn hx (v := .ref D) rfl (fun s2 I3 hsb => ?_) hfl)
  obtain ⟨a, sb, ha⟩ := hsb
  have hne : C ≠ a := by
    rcases ha with ha | ha
    · rw [ha]; exact as.ne
    · exact (as.cl _ _ ha).symm
  refine ⟨m, hm.sameBut sb hne, fun h' sb' => ⟨_, _, I3.turned (t' := s2.toks) (fun b o hb e => (sb'.2 b hb).trans e) as.fr as.ne (.inr as.ab) as.cl as.pn, q⟩⟩
end
end L2

set_option Elab.async false
set_option linter.all false
set_option maxRecDepth 100000
namespace L2
open PySem PySem.Spec PyProof.Rows

/-! ### zip of three lists: the iterators at n, n+1, n+2, their tuple at n+3, the kept tuple at n+4, the zip at n+5 -/
abbrev IsTrip (h : Heap) (T : Addr) (a b c : Value) : Prop := h.get? T = some { cls := .type "tuple", data := .seq #[a, b, c] }
section
variable {prog : Program} {w : World} {A : Around} {E : Value → Shared → Prop} {s : Shared}
theorem upd_trip {T : Addr} {a b c x : Value} {k : Nat} {Q : Unit → Shared → Prop} (hT : IsTrip s.heap T a b c)
    (h : ∀ h', h'.get? T = some { cls := .type "tuple", data := .seq ((#[a, b, c] : Array Value).setIfInBounds k x) } → Heap.SameBut T s.heap h' → Q () { s with heap := h' }) :
    wpAny (model prog w) A (updateSeq T (·.setIfInBounds k x)) Q E s := by
  refine wpAny_updateSeq hT rfl (h _ ?_ (Heap.SameBut.update ..))
  rw [Heap.get?_update_self _ hT rfl]
  simp [Obj.mapSeq]
local macro_rules | `(tactic| walk_at "ne") => `(tactic| (show @Ne Nat _ _; omega))
theorem zip3_item {n l1 l2 l3 : Nat} {k : Nat} {xs ys zs : Array Value} {x y q a b c : Value} {Q : Value → Shared → Prop} (n1 : l1 < n) (n2 : l2 < n) (n3 : l3 < n)
    (hz : IsZip s.heap (n + 5) (n + 3) (n + 4) .none) (hTI : IsTrip s.heap (n + 3) (.ref n) (.ref (n + 1)) (.ref (n + 2))) (hTO : IsTrip s.heap (n + 4) a b c)
    (h1 : s.heap.IsListIter n l1 k) (h2 : s.heap.IsListIter (n + 1) l2 k) (h3 : s.heap.IsListIter (n + 2) l3 k) (hl1 : s.heap.IsList l1 xs) (hl2 : s.heap.IsList l2 ys) (hl3 : s.heap.IsList l3 zs) (hx : xs[k]? = some x) (hy : ys[k]? = some y) (hq : zs[k]? = some q)
    (hQ : ∀ h', IsZip h' (n + 5) (n + 3) (n + 4) (rawInt s.heap.objs.size) → IsTrip h' (n + 4) x y q → h'.IsListIter n l1 (k + 1) → h'.IsListIter (n + 1) l2 (k + 1) → h'.IsListIter (n + 2) l3 (k + 1) → IsTrip h' s.heap.objs.size x y q →
      (∀ d o, d ≠ n → d ≠ n + 1 → d ≠ n + 2 → d ≠ n + 4 → d ≠ n + 5 → s.heap.get? d = some o → h'.get? d = some o) → Q (.ref s.heap.objs.size) { s with heap := h' }) :
    wpAny (model prog w) A (Builtin.«zip.__next__» ⟨[.ref (n + 5)], []⟩) (fun fin s' => ∃ v, fin = .done (.ret v) ∧ Q v s') E s := by
  show wpAny _ _ (field (.ref (n + 5)) 2 >>= _) _ _ _
  refine wpAny_bind (wpAny_field hz rfl (x := .bool false) rfl ?_)
  show wpAny _ _ (field (.ref (n + 5)) 3 >>= _) _ _ _
  refine wpAny_bind (wpAny_field hz rfl (x := .ref (n + 3)) rfl ?_)
  refine wpAny_bind (wpAny_seqItems hTI rfl ?_)
  show wpAny _ _ (Builtin.SmallTypes.ownedTupleIsFree (.ref (n + 5)) >>= _) _ _ _
  refine wpAny_bind ?_
  unfold Builtin.SmallTypes.ownedTupleIsFree
  refine wpAny_bind (wpAny_field hz rfl (x := .none) rfl (wpAny_pure ?_))
  simp only [if_true]
  refine wpAny_bind (wpAny_rule ?_)
  refine wpAny_bind (wpAny_field hz rfl (x := .ref (n + 4)) rfl ?_)
  refine wpAny_bind (wpAny_setField_rec hz (by simp) fun g1 hz1 t1 => ?_)
  replace hz1 : IsZip g1 (n + 5) (n + 3) (n + 4) .ellipsis := hz1
  refine wpAny_bind ?_
  simp only [List.zipIdx_cons, List.zipIdx_nil, List.forIn_cons, List.forIn_nil]
  refine wpAny_bind (wpAny_bind (wpAny_onRaise ?_))
  show wpAny _ _ (Builtin.SmallTypes.nextOf (.ref n) >>= _) _ _ _
  refine wpAny_bind (wpAny_nextOf_list_item (h1.extBut t1.extBut (by walk_at "ne")) (hl1.extBut t1.extBut (by walk_at "ne")) hx fun g2 u1 t2 => wpAny_pure ?_)
  have o2 : IsTrip g2 (n + 4) a b c := t2.extBut _ _ (by walk_at "ne") (t1.extBut _ _ (by walk_at "ne") hTO)
  refine wpAny_bind (wpAny_seqItems o2 rfl ?_)
  refine wpAny_bind (upd_trip o2 fun g3 o3 t3 => ?_)
  replace o3 : IsTrip g3 (n + 4) x b c := o3
  refine wpAny_bind (wpAny_letGo (wpAny_pure ?_))
  refine wpAny_bind (wpAny_bind (wpAny_onRaise ?_))
  show wpAny _ _ (Builtin.SmallTypes.nextOf (.ref (n + 1)) >>= _) _ _ _
  refine wpAny_bind (wpAny_nextOf_list_item (((h2.extBut t1.extBut (by walk_at "ne")).extBut t2.extBut (by walk_at "ne")).extBut t3.extBut (by walk_at "ne")) (((hl2.extBut t1.extBut (by walk_at "ne")).extBut t2.extBut (by walk_at "ne")).extBut t3.extBut (by walk_at "ne")) hy fun g4 u2 t4 => wpAny_pure ?_)
  have o4 : IsTrip g4 (n + 4) x b c := t4.extBut _ _ (by walk_at "ne") o3
  refine wpAny_bind (wpAny_seqItems o4 rfl ?_)
  refine wpAny_bind (upd_trip o4 fun g5 o5 t5 => ?_)
  replace o5 : IsTrip g5 (n + 4) x y c := o5
  refine wpAny_bind (wpAny_letGo (wpAny_pure ?_))
  refine wpAny_bind (wpAny_bind (wpAny_onRaise ?_))
  show wpAny _ _ (Builtin.SmallTypes.nextOf (.ref (n + 2)) >>= _) _ _ _
  refine wpAny_bind (wpAny_nextOf_list_item (((((h3.extBut t1.extBut (by walk_at "ne")).extBut t2.extBut (by walk_at "ne")).extBut t3.extBut (by walk_at "ne")).extBut t4.extBut (by walk_at "ne")).extBut t5.extBut (by walk_at "ne")) (((((hl3.extBut t1.extBut (by walk_at "ne")).extBut t2.extBut (by walk_at "ne")).extBut t3.extBut (by walk_at "ne")).extBut t4.extBut (by walk_at "ne")).extBut t5.extBut (by walk_at "ne")) hq fun g6 u3 t6 => wpAny_pure ?_)
  have o6 : IsTrip g6 (n + 4) x y c := t6.extBut _ _ (by walk_at "ne") o5
  refine wpAny_bind (wpAny_seqItems o6 rfl ?_)
  refine wpAny_bind (upd_trip o6 fun g7 o7 t7 => ?_)
  replace o7 : IsTrip g7 (n + 4) x y q := o7
  refine wpAny_bind (wpAny_letGo (wpAny_pure (wpAny_pure ?_)))
  refine wpAny_bind (wpAny_seqItems o7 rfl ?_)
  refine wpAny_bind (wpAny_newTuple ?_)
  have hsz : g7.objs.size = s.heap.objs.size := by rw [t7.1, t6.1, t5.1, t4.1, t3.1, t2.1, t1.1]
  have z7 : IsZip g7 (n + 5) (n + 3) (n + 4) .ellipsis := t7.extBut _ _ (by walk_at "ne") (t6.extBut _ _ (by walk_at "ne") (t5.extBut _ _ (by walk_at "ne") (t4.extBut _ _ (by walk_at "ne") (t3.extBut _ _ (by walk_at "ne") (t2.extBut _ _ (by walk_at "ne") hz1)))))
  have hk7 : ∀ d o, d ≠ n → d ≠ n + 1 → d ≠ n + 2 → d ≠ n + 4 → d ≠ n + 5 → s.heap.get? d = some o → g7.get? d = some o := fun d o d1 d2 d3 d4 d5 e =>
    t7.extBut _ _ d4 (t6.extBut _ _ d3 (t5.extBut _ _ d4 (t4.extBut _ _ d2 (t3.extBut _ _ d4 (t2.extBut _ _ d1 (t1.extBut _ _ d5 e))))))
  have v1 : g7.IsListIter n l1 (k + 1) := ((((u1.extBut t3.extBut (by walk_at "ne")).extBut t4.extBut (by walk_at "ne")).extBut t5.extBut (by walk_at "ne")).extBut t6.extBut (by walk_at "ne")).extBut t7.extBut (by walk_at "ne")
  have v2 : g7.IsListIter (n + 1) l2 (k + 1) := ((u2.extBut t5.extBut (by walk_at "ne")).extBut t6.extBut (by walk_at "ne")).extBut t7.extBut (by walk_at "ne")
  have v3 : g7.IsListIter (n + 2) l3 (k + 1) := u3.extBut t7.extBut (by walk_at "ne")
  have lz : n + 5 < g7.objs.size := Heap.lt_size z7
  show wpAny _ _ (Builtin.SmallTypes.ownedTupleHandOut (.ref (n + 5)) (.ref g7.objs.size) >>= _) _ _ _
  refine wpAny_bind ?_
  unfold Builtin.SmallTypes.ownedTupleHandOut
  have z8 : IsZip (g7.push { cls := .type "tuple", data := .seq #[x, y, q] }) (n + 5) (n + 3) (n + 4) .ellipsis := Heap.get?_push_of_some _ z7
  refine wpAny_bind (wpAny_setField_rec z8 (by simp) fun g9 z9 t9 => ?_)
  replace z9 : IsZip g9 (n + 5) (n + 3) (n + 4) (rawInt g7.objs.size) := z9
  refine wpAny_setField_rec z9 (by simp) fun g10 z10 t10 => ?_
  replace z10 : IsZip g10 (n + 5) (n + 3) (n + 4) (rawInt g7.objs.size) := z10
  have up : ∀ d o, d ≠ n + 5 → g7.get? d = some o → g10.get? d = some o := fun d o d1 e => t10.extBut _ _ d1 (t9.extBut _ _ d1 (Heap.get?_push_of_some _ e))
  have hT : IsTrip g10 g7.objs.size x y q := t10.extBut _ _ (Nat.ne_of_gt lz) (t9.extBut _ _ (Nat.ne_of_gt lz) (Heap.get?_push_size _ rfl))
  rw [hsz] at z10 hT ⊢
  refine wpAny_pure ⟨_, rfl, ?_⟩
  exact hQ g10 z10 (up _ _ (by walk_at "ne") o7) (v1.at fun o e => up _ o (by walk_at "ne") e) (v2.at fun o e => up _ o (by walk_at "ne") e) (v3.at fun o e => up _ o (by walk_at "ne") e) hT fun d o d1 d2 d3 d4 d5 e => up d o d5 (hk7 d o d1 d2 d3 d4 d5 e)
end
end L2
namespace L2
open PySem PySem.Spec PyProof.Rows
local macro_rules | `(tactic| walk_at "ne") => `(tactic| (show @Ne Nat _ _; omega))
section
variable {prog : Program} {w : World} {A : Around} {E : Value → Shared → Prop} {s : Shared}
theorem zip3_end {n l1 l2 l3 : Nat} {k : Nat} {xs ys zs : Array Value} {a b c : Value} {Q : Fin → Shared → Prop} (hh : A.handled = none) (n1 : l1 < n) (n2 : l2 < n) (n3 : l3 < n)
    (hz : IsZip s.heap (n + 5) (n + 3) (n + 4) .none) (hTI : IsTrip s.heap (n + 3) (.ref n) (.ref (n + 1)) (.ref (n + 2))) (hTO : IsTrip s.heap (n + 4) a b c)
    (h1 : s.heap.IsListIter n l1 k) (h2 : s.heap.IsListIter (n + 1) l2 k) (h3 : s.heap.IsListIter (n + 2) l3 k) (hl1 : s.heap.IsList l1 xs) (hl2 : s.heap.IsList l2 ys) (hl3 : s.heap.IsList l3 zs) (hend : xs[k]? = none ∨ ys[k]? = none ∨ zs[k]? = none)
    (hE : ∀ h' e, (∀ d o, d ≠ n → d ≠ n + 1 → d ≠ n + 2 → d ≠ n + 4 → d ≠ n + 5 → s.heap.get? d = some o → h'.get? d = some o) → (∃ o, h'.get? e = some o ∧ o.cls = .type "StopIteration") → E (.ref e) { s with heap := h' }) :
    wpAny (model prog w) A (Builtin.«zip.__next__» ⟨[.ref (n + 5)], []⟩) Q E s := by
  show wpAny _ _ (field (.ref (n + 5)) 2 >>= _) _ _ _
  refine wpAny_bind (wpAny_field hz rfl (x := .bool false) rfl ?_)
  show wpAny _ _ (field (.ref (n + 5)) 3 >>= _) _ _ _
  refine wpAny_bind (wpAny_field hz rfl (x := .ref (n + 3)) rfl ?_)
  refine wpAny_bind (wpAny_seqItems hTI rfl ?_)
  show wpAny _ _ (Builtin.SmallTypes.ownedTupleIsFree (.ref (n + 5)) >>= _) _ _ _
  refine wpAny_bind ?_
  unfold Builtin.SmallTypes.ownedTupleIsFree
  refine wpAny_bind (wpAny_field hz rfl (x := .none) rfl (wpAny_pure ?_))
  simp only [if_true]
  refine wpAny_bind (wpAny_rule ?_)
  refine wpAny_bind (wpAny_field hz rfl (x := .ref (n + 4)) rfl ?_)
  refine wpAny_bind (wpAny_setField_rec hz (by simp) fun g1 hz1 t1 => ?_)
  replace hz1 : IsZip g1 (n + 5) (n + 3) (n + 4) .ellipsis := hz1
  refine wpAny_bind ?_
  simp only [List.zipIdx_cons, List.zipIdx_nil, List.forIn_cons, List.forIn_nil]
  refine wpAny_bind (wpAny_bind (wpAny_onRaise ?_))
  show wpAny _ _ (Builtin.SmallTypes.nextOf (.ref n) >>= _) _ _ _
  cases hx : xs[k]? with
  | none =>
    refine wpAny_bind (wpAny_nextOf_list_end hh (h1.extBut t1.extBut (by walk_at "ne")) (hl1.extBut t1.extBut (by walk_at "ne")) hx fun g2 e t2 he => ?_)
    obtain ⟨oe, hoe, hce⟩ := he
    have hz2 : IsZip g2 (n + 5) (n + 3) (n + 4) .ellipsis := t2 _ _ (by walk_at "ne") hz1
    have hez : e ≠ n + 5 := fun x => by subst x; rw [hz2] at hoe; cases hoe; simp at hce
    exact wpAny_setField_rec hz2 (by simp) fun g3 _ t3 => hE g3 e (fun d o d1 _ _ _ d5 x => t3.extBut _ _ d5 (t2 _ _ d1 (t1.extBut _ _ d5 x))) ⟨oe, t3.extBut _ _ hez hoe, hce⟩
  | some x =>
    refine wpAny_bind (wpAny_nextOf_list_item (h1.extBut t1.extBut (by walk_at "ne")) (hl1.extBut t1.extBut (by walk_at "ne")) hx fun g2 u1 t2 => wpAny_pure ?_)
    have o2 : IsTrip g2 (n + 4) a b c := t2.extBut _ _ (by walk_at "ne") (t1.extBut _ _ (by walk_at "ne") hTO)
    refine wpAny_bind (wpAny_seqItems o2 rfl ?_)
    refine wpAny_bind (upd_trip o2 fun g3 o3 t3 => ?_)
    replace o3 : IsTrip g3 (n + 4) x b c := o3
    refine wpAny_bind (wpAny_letGo (wpAny_pure ?_))
    refine wpAny_bind (wpAny_bind (wpAny_onRaise ?_))
    show wpAny _ _ (Builtin.SmallTypes.nextOf (.ref (n + 1)) >>= _) _ _ _
    have zz3 : IsZip g3 (n + 5) (n + 3) (n + 4) .ellipsis := t3.extBut _ _ (by walk_at "ne") (t2.extBut _ _ (by walk_at "ne") hz1)
    have k3 : ∀ d o, d ≠ n → d ≠ n + 4 → d ≠ n + 5 → s.heap.get? d = some o → g3.get? d = some o := fun d o d1 d4 d5 e => t3.extBut _ _ d4 (t2.extBut _ _ d1 (t1.extBut _ _ d5 e))
    have i2 : g3.IsListIter (n + 1) l2 k := ((h2.extBut t1.extBut (by walk_at "ne")).extBut t2.extBut (by walk_at "ne")).extBut t3.extBut (by walk_at "ne")
    have q2 : g3.IsList l2 ys := ((hl2.extBut t1.extBut (by walk_at "ne")).extBut t2.extBut (by walk_at "ne")).extBut t3.extBut (by walk_at "ne")
    have i3 : g3.IsListIter (n + 2) l3 k := ((h3.extBut t1.extBut (by walk_at "ne")).extBut t2.extBut (by walk_at "ne")).extBut t3.extBut (by walk_at "ne")
    have q3 : g3.IsList l3 zs := ((hl3.extBut t1.extBut (by walk_at "ne")).extBut t2.extBut (by walk_at "ne")).extBut t3.extBut (by walk_at "ne")
    cases hy : ys[k]? with
    | none =>
      refine wpAny_bind (wpAny_nextOf_list_end hh i2 q2 hy fun g4 e t4 he => ?_)
      obtain ⟨oe, hoe, hce⟩ := he
      have hz4 : IsZip g4 (n + 5) (n + 3) (n + 4) .ellipsis := t4 _ _ (by walk_at "ne") zz3
      have hez : e ≠ n + 5 := fun x => by subst x; rw [hz4] at hoe; cases hoe; simp at hce
      exact wpAny_setField_rec hz4 (by simp) fun g5 _ t5 => hE g5 e (fun d o d1 d2 _ d4 d5 x => t5.extBut _ _ d5 (t4 _ _ d2 (k3 d o d1 d4 d5 x))) ⟨oe, t5.extBut _ _ hez hoe, hce⟩
    | some y =>
      have hq : zs[k]? = none := by
        rcases hend with h | h | h
        · rw [hx] at h; cases h
        · rw [hy] at h; cases h
        · exact h
      refine wpAny_bind (wpAny_nextOf_list_item i2 q2 hy fun g4 u2 t4 => wpAny_pure ?_)
      have o4 : IsTrip g4 (n + 4) x b c := t4.extBut _ _ (by walk_at "ne") o3
      refine wpAny_bind (wpAny_seqItems o4 rfl ?_)
      refine wpAny_bind (upd_trip o4 fun g5 o5 t5 => ?_)
      refine wpAny_bind (wpAny_letGo (wpAny_pure ?_))
      refine wpAny_bind (wpAny_bind (wpAny_onRaise ?_))
      show wpAny _ _ (Builtin.SmallTypes.nextOf (.ref (n + 2)) >>= _) _ _ _
      refine wpAny_bind (wpAny_nextOf_list_end hh ((i3.extBut t4.extBut (by walk_at "ne")).extBut t5.extBut (by walk_at "ne")) ((q3.extBut t4.extBut (by walk_at "ne")).extBut t5.extBut (by walk_at "ne")) hq fun g6 e t6 he => ?_)
      obtain ⟨oe, hoe, hce⟩ := he
      have hz6 : IsZip g6 (n + 5) (n + 3) (n + 4) .ellipsis := t6 _ _ (by walk_at "ne") (t5.extBut _ _ (by walk_at "ne") (t4.extBut _ _ (by walk_at "ne") zz3))
      have hez : e ≠ n + 5 := fun x => by subst x; rw [hz6] at hoe; cases hoe; simp at hce
      exact wpAny_setField_rec hz6 (by simp) fun g7 _ t7 => hE g7 e (fun d o d1 d2 d3 d4 d5 x => t7.extBut _ _ d5 (t6 _ _ d3 (t5.extBut _ _ d4 (t4.extBut _ _ d2 (k3 d o d1 d4 d5 x))))) ⟨oe, t7.extBut _ _ hez hoe, hce⟩
theorem next_zip3 {n l1 l2 l3 : Nat} {k : Nat} {xs ys zs : Array Value} {x y q a b c : Value} {Q : Option Value → Shared → Prop} (n1 : l1 < n) (n2 : l2 < n) (n3 : l3 < n)
    (hz : IsZip s.heap (n + 5) (n + 3) (n + 4) .none) (hTI : IsTrip s.heap (n + 3) (.ref n) (.ref (n + 1)) (.ref (n + 2))) (hTO : IsTrip s.heap (n + 4) a b c)
    (h1 : s.heap.IsListIter n l1 k) (h2 : s.heap.IsListIter (n + 1) l2 k) (h3 : s.heap.IsListIter (n + 2) l3 k) (hl1 : s.heap.IsList l1 xs) (hl2 : s.heap.IsList l2 ys) (hl3 : s.heap.IsList l3 zs) (hx : xs[k]? = some x) (hy : ys[k]? = some y) (hq : zs[k]? = some q)
    (hQ : ∀ h', IsZip h' (n + 5) (n + 3) (n + 4) (rawInt s.heap.objs.size) → IsTrip h' (n + 4) x y q → h'.IsListIter n l1 (k + 1) → h'.IsListIter (n + 1) l2 (k + 1) → h'.IsListIter (n + 2) l3 (k + 1) → IsTrip h' s.heap.objs.size x y q →
      (∀ d o, d ≠ n → d ≠ n + 1 → d ≠ n + 2 → d ≠ n + 4 → d ≠ n + 5 → s.heap.get? d = some o → h'.get? d = some o) → Q (some (.ref s.heap.objs.size)) { s with heap := h' }) :
    wpAny (model prog w) A (pyNext (.ref (n + 5))) Q E s := by
  have hT : s.TypeIs (.ref (n + 5)) "zip" := ⟨_, hz, rfl⟩
  unfold pyNext
  exact wpAny_bind (wpAny_attempt (wpAny_callSpecial?_slot (name := Str.ofString "__next__") hT F.slot_zip_next
    (wpAny_call_entry F.slot_zip_next hT F.entry_zip_next
      (zip3_item n1 n2 n3 hz hTI hTO h1 h2 h3 hl1 hl2 hl3 hx hy hq fun h' a1 a2 a3 a4 a5 a6 a7 => wpAny_pure (hQ h' a1 a2 a3 a4 a5 a6 a7)) (F.args_zip_next_1 _))))
theorem next_zip3_end {n l1 l2 l3 : Nat} {k : Nat} {xs ys zs : Array Value} {a b c : Value} {Q : Option Value → Shared → Prop} (hh : A.handled = none) (n1 : l1 < n) (n2 : l2 < n) (n3 : l3 < n)
    (hz : IsZip s.heap (n + 5) (n + 3) (n + 4) .none) (hTI : IsTrip s.heap (n + 3) (.ref n) (.ref (n + 1)) (.ref (n + 2))) (hTO : IsTrip s.heap (n + 4) a b c)
    (h1 : s.heap.IsListIter n l1 k) (h2 : s.heap.IsListIter (n + 1) l2 k) (h3 : s.heap.IsListIter (n + 2) l3 k) (hl1 : s.heap.IsList l1 xs) (hl2 : s.heap.IsList l2 ys) (hl3 : s.heap.IsList l3 zs) (hend : xs[k]? = none ∨ ys[k]? = none ∨ zs[k]? = none)
    (hQ : ∀ h', (∀ d o, d ≠ n → d ≠ n + 1 → d ≠ n + 2 → d ≠ n + 4 → d ≠ n + 5 → s.heap.get? d = some o → h'.get? d = some o) → Q none { s with heap := h' }) : wpAny (model prog w) A (pyNext (.ref (n + 5))) Q E s := by
  have hT : s.TypeIs (.ref (n + 5)) "zip" := ⟨_, hz, rfl⟩
  unfold pyNext
  refine wpAny_bind (wpAny_attempt (wpAny_callSpecial?_slot (name := Str.ofString "__next__") hT F.slot_zip_next
    (wpAny_call_entry F.slot_zip_next hT F.entry_zip_next (zip3_end hh n1 n2 n3 hz hTI hTO h1 h2 h3 hl1 hl2 hl3 hend fun h' e hk he => ?_) (F.args_zip_next_1 _))))
  obtain ⟨o, ho, hc⟩ := he
  refine wpAny_bind (wpAny_isInstance (T := "StopIteration") (b := true) ⟨o, ho, hc⟩ isSubtype_stop ?_)
  exact wpAny_pure (hQ _ hk)
end

/-! ### the call zip(a, b, c) -/
theorem typeCall_zip3 (a b c : Value) : checkTypeCall "zip" ⟨[a, b, c], []⟩ = pure () := by kernel_rfl
theorem newCall_zip3 (a b c : Value) : checkBuiltinCall "zip.__new__" ⟨[.type "zip", a, b, c], []⟩ = pure () := by kernel_rfl
theorem initArgs4 (o a b c : Value) : argsOk "object.__init__" ⟨[o, a, b, c], []⟩ := by
  unfold argsOk; rw [signature?_of (id := "object.__init__") (n := ['_', '_', 't', 'i', 'n', 'i', '_', '_']) (o := ['t', 'c', 'e', 'j', 'b', 'o']) (by kernel_rfl) PySem.F.owner_object]; kernel_rfl
abbrev z3H1 (h : Heap) (l1 : Addr) : Heap := h.push { cls := .type "list_iterator", data := .fields #[.ref l1, .int 0 0] }
abbrev z3H2 (h : Heap) (l1 l2 : Addr) : Heap := (z3H1 h l1).push { cls := .type "list_iterator", data := .fields #[.ref l2, .int 0 0] }
abbrev z3H3 (h : Heap) (l1 l2 l3 : Addr) : Heap := (z3H2 h l1 l2).push { cls := .type "list_iterator", data := .fields #[.ref l3, .int 0 0] }
abbrev z3H4 (h : Heap) (l1 l2 l3 : Addr) : Heap := (z3H3 h l1 l2 l3).push { cls := .type "tuple", data := .seq #[.ref h.objs.size, .ref (z3H1 h l1).objs.size, .ref (z3H2 h l1 l2).objs.size] }
abbrev z3H5 (h : Heap) (l1 l2 l3 : Addr) : Heap := (z3H4 h l1 l2 l3).push { cls := .type "tuple", data := .seq #[.none, .none, .none] }
abbrev z3H6 (h : Heap) (l1 l2 l3 : Addr) : Heap := (z3H5 h l1 l2 l3).push { cls := .type "zip", data := .fields #[.none, .bool false, .bool false, .ref (z3H3 h l1 l2 l3).objs.size, .ref (z3H4 h l1 l2 l3).objs.size] }
set_option maxHeartbeats 4000000 in
theorem meets_zip3 (l1 l2 l3 : Addr) (xs ys zs : Array Value) :
    Meets (Builtin.«zip.__new__» ⟨[.type "zip", .ref l1, .ref l2, .ref l3], []⟩) (fun _ R s => s.heap.IsList l1 xs ∧ s.heap.IsList l2 ys ∧ s.heap.IsList l3 zs ∧
      R (.ok (.ret (.ref (z3H5 s.heap l1 l2 l3).objs.size))) { s with heap := z3H6 s.heap l1 l2 l3 }) :=
  .of_wp fun prog w A R s h => by
    obtain ⟨hp, g, d, tk, os⟩ := s; obtain ⟨hl1, hl2, hl3, h⟩ := h
    have hsub := sub_zip
    have hL1 : Heap.IsList (Shared.heap ⟨hp, g, d, tk, os⟩) l1 xs := hl1
    have hL2 : Heap.IsList (Shared.heap ⟨hp.push { cls := .type "list_iterator", data := .fields #[.ref l1, .int 0 0] }, g, d, tk, os⟩) l2 ys := Heap.IsList.push hl2 _
    have hL3 : Heap.IsList (Shared.heap ⟨(hp.push { cls := .type "list_iterator", data := .fields #[.ref l1, .int 0 0] }).push { cls := .type "list_iterator", data := .fields #[.ref l2, .int 0 0] }, g, d, tk, os⟩) l3 zs := Heap.IsList.push (Heap.IsList.push hl3 _) _
    wp_walk using wpAny_pyIter_list hL1, wpAny_pyIter_list hL2, wpAny_pyIter_list hL3
    exact ⟨_, rfl, h⟩
section
variable {prog : Program} {w : World} {A : Around} {E : Value → Shared → Prop} {s : Shared}
theorem call_zip3 {l1 l2 l3 : Addr} {xs ys zs : Array Value} {Q : Value → Shared → Prop} (hl1 : s.heap.IsList l1 xs) (hl2 : s.heap.IsList l2 ys) (hl3 : s.heap.IsList l3 zs)
    (h : ∀ h', IsZip h' (s.heap.objs.size + 5) (s.heap.objs.size + 3) (s.heap.objs.size + 4) .none → IsTrip h' (s.heap.objs.size + 3) (.ref s.heap.objs.size) (.ref (s.heap.objs.size + 1)) (.ref (s.heap.objs.size + 2)) →
      IsTrip h' (s.heap.objs.size + 4) .none .none .none → h'.IsListIter s.heap.objs.size l1 0 → h'.IsListIter (s.heap.objs.size + 1) l2 0 → h'.IsListIter (s.heap.objs.size + 2) l3 0 →
      (∀ c o, s.heap.get? c = some o → h'.get? c = some o) → Q (.ref (s.heap.objs.size + 5)) { s with heap := h' }) :
    wpAny (model prog w) A (call (.type "zip") [.ref l1, .ref l2, .ref l3]) Q E s := by
  refine callType_new F.called_zip (by decide) (typeCall_zip3 _ _ _) (newCall_zip3 _ _ _) (fun obj => initArgs4 obj _ _ _) F.entry_zip_new
    (meets_zip3 l1 l2 l3 xs ys zs) ⟨hl1, hl2, hl3, ?_⟩
  have z1 : (z3H1 s.heap l1).objs.size = s.heap.objs.size + 1 := Heap.size_push ..
  have z2 : (z3H2 s.heap l1 l2).objs.size = s.heap.objs.size + 2 := by rw [Heap.size_push, z1]
  have z3 : (z3H3 s.heap l1 l2 l3).objs.size = s.heap.objs.size + 3 := by rw [Heap.size_push, z2]
  have z4 : (z3H4 s.heap l1 l2 l3).objs.size = s.heap.objs.size + 4 := by rw [Heap.size_push, z3]
  have z5 : (z3H5 s.heap l1 l2 l3).objs.size = s.heap.objs.size + 5 := by rw [Heap.size_push, z4]
  have g6 : (z3H6 s.heap l1 l2 l3).get? (z3H5 s.heap l1 l2 l3).objs.size = some _ := Heap.get?_push_size _ rfl
  have g5 : (z3H6 s.heap l1 l2 l3).get? (z3H4 s.heap l1 l2 l3).objs.size = some _ := Heap.get?_push_of_some _ (Heap.get?_push_size _ rfl)
  have g4 : (z3H6 s.heap l1 l2 l3).get? (z3H3 s.heap l1 l2 l3).objs.size = some _ := Heap.get?_push_of_some _ (Heap.get?_push_of_some _ (Heap.get?_push_size _ rfl))
  have g3 : (z3H6 s.heap l1 l2 l3).get? (z3H2 s.heap l1 l2).objs.size = some _ := Heap.get?_push_of_some _ (Heap.get?_push_of_some _ (Heap.get?_push_of_some _ (Heap.get?_push_size _ rfl)))
  have g2 : (z3H6 s.heap l1 l2 l3).get? (z3H1 s.heap l1).objs.size = some _ := Heap.get?_push_of_some _ (Heap.get?_push_of_some _ (Heap.get?_push_of_some _ (Heap.get?_push_of_some _ (Heap.get?_push_size _ rfl))))
  have g1 : (z3H6 s.heap l1 l2 l3).get? s.heap.objs.size = some _ := Heap.get?_push_of_some _ (Heap.get?_push_of_some _ (Heap.get?_push_of_some _ (Heap.get?_push_of_some _ (Heap.get?_push_of_some _ (Heap.get?_push_size _ rfl)))))
  show _ ∧ _
  rw [z3, z4, z5] at g6
  rw [z4] at g5
  rw [z1, z2, z3] at g4
  rw [z2] at g3
  rw [z1] at g2
  rw [z5]
  exact ⟨⟨_, g6, rfl⟩, h _ g6 g4 g5 ⟨_, g1, rfl, rfl⟩ ⟨_, g2, rfl, rfl⟩ ⟨_, g3, rfl, rfl⟩ fun c o x =>
    Heap.get?_push_of_some _ (Heap.get?_push_of_some _ (Heap.get?_push_of_some _ (Heap.get?_push_of_some _ (Heap.get?_push_of_some _ (Heap.get?_push_of_some _ x)))))⟩
end
def It3 (K : PySem.W.Frag) (a b c : Addr) : It :=
  ⟨fun i H => ∃ xs ys zs x y q, SqL K H a xs ∧ SqL K H b ys ∧ SqL K H c zs ∧ xs[i]? = some x ∧ ys[i]? = some y ∧ zs[i]? = some q,
   fun i H v H' => ∃ T x y q, v = .ref T ∧ H T = none ∧ H' = upd H T (.tup [x, y, q]) ∧ (∀ xs, SqL K H a xs → xs[i]? = some x) ∧ (∀ ys, SqL K H b ys → ys[i]? = some y) ∧ ∀ zs, SqL K H c zs → zs[i]? = some q,
   fun i H => ∃ xs ys zs, SqL K H a xs ∧ SqL K H b ys ∧ SqL K H c zs ∧ (xs.length ≤ i ∨ ys.length ≤ i ∨ zs.length ≤ i)⟩
def Zip3St (n a b c : Nat) (i : Nat) (h : Heap) : Prop := IsZip h (n + 5) (n + 3) (n + 4) .none ∧ IsTrip h (n + 3) (.ref n) (.ref (n + 1)) (.ref (n + 2)) ∧ (∃ u v w, IsTrip h (n + 4) u v w) ∧ h.IsListIter n a i ∧ h.IsListIter (n + 1) b i ∧ h.IsListIter (n + 2) c i
theorem turn_zip3 {P : Program} {w : World} {K : PySem.W.Frag} {elts : List Expr} {kk : Nat} {tp : Pos} {n a b c : Nat} (n1 : a < n) (n2 : b < n) (n3 : c < n) :
    Turn P w K (.Tuple elts kk tp) (It3 K a b c) [n + 5, n + 3, n + 4, n, n + 1, n + 2] (n + 5) (Zip3St n a b c) where
  mem := by simp
  obj := fun i h st d hd => by
    obtain ⟨h1, h2, ⟨u, v, w', h3⟩, ⟨o1, e1, _, d1⟩, ⟨o2, e2, _, d2⟩, ⟨o3, e3, _, d3⟩⟩ := st
    simp only [List.mem_cons, List.not_mem_nil, or_false] at hd
    rcases hd with rfl | rfl | rfl | rfl | rfl | rfl
    · exact ⟨_, h1, fun v z => by cases (show Data.fields _ = Data.cell v from z)⟩
    · exact ⟨_, h2, fun v z => by cases (show Data.seq _ _ = Data.cell v from z)⟩
    · exact ⟨_, h3, fun v z => by cases (show Data.seq _ _ = Data.cell v from z)⟩
    · exact ⟨_, e1, fun v z => by rw [d1] at z; cases z⟩
    · exact ⟨_, e2, fun v z => by rw [d2] at z; cases z⟩
    · exact ⟨_, e3, fun v z => by rw [d3] at z; cases z⟩
  keep := fun i h h' st k => by
    obtain ⟨h1, h2, ⟨u, v, w', h3⟩, h4, h5, h6⟩ := st
    exact ⟨k _ (by simp) _ h1, k _ (by simp) _ h2, ⟨u, v, w', k _ (by simp) _ h3⟩, h4.at fun o e => k _ (by simp) o e, h5.at fun o e => k _ (by simp) o e, h6.at fun o e => k _ (by simp) o e⟩
  item := by
    intro X hP hw hK hc i pins s σ H E I hf st hg
    subst hP hw hK
    obtain ⟨xs, ys, zs, x, y, q, hx, hy, hq, ex, ey, eq⟩ := hg
    obtain ⟨h1, h2, ⟨u, v, w', h3⟩, h4, h5, h6⟩ := st
    obtain ⟨its, rv, p, hz⟩ := I.list hx
    obtain ⟨jts, rw', p', hz'⟩ := I.list hy
    obtain ⟨kts, rk, p'', hz''⟩ := I.list hq
    obtain ⟨ux, hux, rux⟩ := rv.get ex
    obtain ⟨uy, huy, ruy⟩ := rw'.get ey
    obtain ⟨uq, huq, ruq⟩ := rk.get eq
    refine next_zip3 n1 n2 n3 h1 h2 h3 h4 h5 h6 p.isList p'.isList p''.isList (x := ux) (y := uy) (q := uq) (by simpa using hux) (by simpa using huy) (by simpa using huq) fun h' a1 a2 a3 a4 a5 a6 a7 => ?_
    have ln : n + 5 < s.heap.objs.size := Heap.lt_size h1
    have lt : ∀ d ∈ [n + 5, n + 3, n + 4, n, n + 1, n + 2], d < s.heap.objs.size := fun d hd => by
      simp only [List.mem_cons, List.not_mem_nil, or_false] at hd
      rcases hd with rfl | rfl | rfl | rfl | rfl | rfl <;> omega
    refine ⟨_, rfl, wpAny_letOwnedTupleGo_zip a1 fun h2' b1 b2 => ?_⟩
    have hk : ∀ d o, d ∉ [n + 5, n + 3, n + 4, n, n + 1, n + 2] → s.heap.get? d = some o → h2'.get? d = some o := fun d o hd e => by
      simp only [List.mem_cons, List.not_mem_nil, or_false, not_or] at hd
      exact (b2.2 d hd.1).trans (a7 d o hd.2.2.2.1 hd.2.2.2.2.1 hd.2.2.2.2.2 hd.2.2.1 hd.1 e)
    have I1 := I.turnT (h' := h2') (t' := s.toks) (T := s.heap.objs.size) (xs := [x, y, q]) (its := [ux, uy, uq]) hf hk (Nat.le_refl _) (szl (Nat.le_of_ble_eq_true rfl)) (.cons rux (.cons ruy (.cons ruq .nil))) ⟨_, (b2.2 _ (by show @Ne Nat _ _; omega)).trans a6, rfl, _, rfl⟩
    refine ⟨.ref s.heap.objs.size, _, I1, rfl, ⟨_, x, y, q, rfl, I.hok.fresh (Nat.le_refl _), rfl, fun xs' h => by rw [I.list_inj h hx]; exact ex, fun ys' h => by rw [I.list_inj h hy]; exact ey, fun zs' h => by rw [I.list_inj h hq]; exact eq⟩, ?_, fun d hd => ?_⟩
    · exact ⟨b1, (b2.2 _ (by show @Ne Nat _ _; omega)).trans (a7 _ _ (by show @Ne Nat _ _; omega) (by show @Ne Nat _ _; omega) (by show @Ne Nat _ _; omega) (by show @Ne Nat _ _; omega) (by show @Ne Nat _ _; omega) h2), ⟨_, _, _, (b2.2 _ (by show @Ne Nat _ _; omega)).trans a2⟩, a3.at fun o e => (b2.2 _ (by show @Ne Nat _ _; omega)).trans e, a4.at fun o e => (b2.2 _ (by show @Ne Nat _ _; omega)).trans e, a5.at fun o e => (b2.2 _ (by show @Ne Nat _ _; omega)).trans e⟩
    · rw [upd_ne (Nat.ne_of_lt (lt d hd))]
      exact (hf d hd).1
  done := by
    intro X hP hw hK hc i pins s σ H E I hf st hg
    subst hP hw hK
    obtain ⟨xs, ys, zs, hx, hy, hq, hl⟩ := hg
    obtain ⟨h1, h2, ⟨u, v, w', h3⟩, h4, h5, h6⟩ := st
    obtain ⟨its, rv, p, hz⟩ := I.list hx
    obtain ⟨jts, rw', p', hz'⟩ := I.list hy
    obtain ⟨kts, rk, p'', hz''⟩ := I.list hq
    have l1 := rv.length
    have l2 := rw'.length
    have l3 := rk.length
    refine next_zip3_end (I.ok.hd hc) n1 n2 n3 h1 h2 h3 h4 h5 h6 p.isList p'.isList p''.isList ?_ fun h' hk => ⟨rfl, ?_⟩
    · rcases hl with hl | hl | hl
      · left; simp; omega
      · right; left; simp; omega
      · right; right; simp; omega
    · exact I.turnedL (t' := s.toks) hf fun d o hd e => by
        simp only [List.mem_cons, List.not_mem_nil, or_false, not_or] at hd
        exact hk d o hd.2.2.2.1 hd.2.2.2.2.1 hd.2.2.2.2.2 hd.2.2.1 hd.1 e
  self := fun A i s Q E st h => wpAny_pyIter_zip st.1 h
def iZip3 (K : PySem.W.Frag) (ta : TA) : TI := fun σ H R => ta σ H fun vs H1 => ∃ a b c, vs = [.ref a, .ref b, .ref c] ∧ (∃ xs, SqL K H1 a xs) ∧ (∃ ys, SqL K H1 b ys) ∧ (∃ zs, SqL K H1 c zs) ∧ R (It3 K a b c) H1
section
variable {X : Cx} {elts : List Expr} {kk : Nat} {tp : Pos}
theorem pi_zip3 {a b c : Expr} {ta : TA} {p pos : Pos} (hg : Gl X "zip") (hm : X.mg "zip" = none) (ha : PA X [a, b, c] ta) (hs : starEach [a, b, c] X.env = [(false, eval a X.env), (false, eval b X.env), (false, eval c X.env)] := by rfl) (hs2 : starEach [b, c] X.env = [(false, eval b X.env), (false, eval c X.env)] := by rfl) :
    PI X (.Tuple elts kk tp) (.Call (.Name "zip" p) [a, b, c] [] pos) (iZip3 X.K ta) := by
  intro pins s σ H R I h
  refine Call_ (ld_blt I hg hm bt_zip (PyProof.Rows.callWith_type1 (thn (ha pos pins s σ H _ I h) fun us s1 ⟨vs, H1, I1, r1, q1⟩ => ?_) (by rw [hs, hs2]) (by rw [hs2]; rfl)))
  obtain ⟨x, y, q, e, ⟨xs, hx⟩, ⟨ys, hy⟩, ⟨zs, hq⟩, R1⟩ := q1
  subst e
  cases r1 with
  | cons r rr =>
    cases rr with
    | cons r' rr =>
      cases rr with
      | cons r'' rr =>
        cases rr
        obtain ⟨its, rv, pl, hz⟩ := I1.list hx
        obtain ⟨jts, rw', ql, hz'⟩ := I1.list hy
        obtain ⟨kts, rk, kl, hz''⟩ := I1.list hq
        cases r
        cases r'
        cases r''
        have a1 : x < s1.heap.objs.size := by obtain ⟨_, e, _⟩ := pl.isList; exact Heap.lt_size e
        have a2 : y < s1.heap.objs.size := by obtain ⟨_, e, _⟩ := ql.isList; exact Heap.lt_size e
        have a3 : q < s1.heap.objs.size := by obtain ⟨_, e, _⟩ := kl.isList; exact Heap.lt_size e
        refine call_zip3 pl.isList ql.isList kl.isList fun h' b1 b2 b3 b4 b5 b6 b7 => ?_
        have I2 : Inv X pins σ H1 { s1 with heap := h' } := I1.kept (t' := s1.toks) b7
        refine wpAny_pyIter_zip (s := { s1 with heap := h' }) b1 ⟨_, _, _, _, H1, rfl, I2, turn_zip3 a1 a2 a3, ⟨b1, b2, ⟨_, _, _, b3⟩, b4, b5, b6⟩, fun c hc => ?_, R1⟩
        have hc' : s1.heap.objs.size ≤ c := by
          simp only [List.mem_cons, List.not_mem_nil, or_false] at hc
          rcases hc with rfl | rfl | rfl | rfl | rfl | rfl
          · exact Nat.le_add_right _ _
          · exact Nat.le_add_right _ _
          · exact Nat.le_add_right _ _
          · exact Nat.le_refl _
          · exact Nat.le_add_right _ _
          · exact Nat.le_add_right _ _
        exact I1.fpOk hc' (I1.hok.fresh hc')
theorem pi_zip3K (K : PySem.W.Frag) {a b c : Expr} {ta : TA} {p pos : Pos} (hg : Gl X "zip") (hm : X.mg "zip" = none) (ha : PA X [a, b, c] ta) (hs : starEach [a, b, c] X.env = [(false, eval a X.env), (false, eval b X.env), (false, eval c X.env)] := by rfl) (hs2 : starEach [b, c] X.env = [(false, eval b X.env), (false, eval c X.env)] := by rfl)
    (hK : X.K = K := by rfl) : PI X (.Tuple elts kk tp) (.Call (.Name "zip" p) [a, b, c] [] pos) (iZip3 K ta) := by subst hK; exact pi_zip3 hg hm ha hs hs2
end
section
variable {K : PySem.W.Frag} {g : TG} {ti : TT} {te : TE} {σc : St} {H : Hp} {Q : VK}
theorem cp_zip3 {a b c : Addr} {xs ys ws : List V} (Pv : Nat → List V → Hp → Prop) (h0 : Pv 0 [] H) (hl : ∀ i zs H, Pv i zs H → SqL K H a xs ∧ SqL K H b ys ∧ SqL K H c ws ∧ zs.length ≤ i) (hx : min xs.length (min ys.length ws.length) < sizeLine)
    (hs : ∀ i x y q T zs H, xs[i]? = some x → ys[i]? = some y → ws[i]? = some q → Pv i zs H → H T = none → g (.ref T) σc (upd H T (.tup [x, y, q])) fun σ2 H2 => ti σ2 H2 fun b H3 => if b = true then te σ2 H3 fun y H4 => Pv (i + 1) (zs ++ [y]) H4 else Pv (i + 1) zs H3)
    (hd : ∀ l zs H, Pv (min xs.length (min ys.length ws.length)) zs H → H l = none → Q (.ref l) (upd H l (.lst zs))) : CompI (It3 K a b c) g ti te σc H Q := by
  refine ⟨fun i m zs H => m = min xs.length (min ys.length ws.length) - i ∧ i ≤ min xs.length (min ys.length ws.length) ∧ Pv i zs H, ⟨_, rfl, Nat.zero_le _, h0⟩, ?_⟩
  rintro i m zs H ⟨rfl, hi, p⟩
  obtain ⟨q1, q2, q3, hy⟩ := hl i zs H p
  refine ⟨by omega, ?_⟩
  by_cases hlt : i < min xs.length (min ys.length ws.length)
  · have l1 : i < xs.length := by omega
    have l2 : i < ys.length := by omega
    have l3 : i < ws.length := by omega
    refine .inr ⟨⟨xs, ys, ws, xs[i], ys[i], ws[i], q1, q2, q3, by simp [l1], by simp [l2], by simp [l3]⟩, Pv (i + 1), fun σ' H' p' => ⟨_, by omega, rfl, hlt, p'⟩, fun x H' y => ?_⟩
    obtain ⟨T, x1, y1, z1, rfl, hT, rfl, ex, ey, ez⟩ := y
    exact hs i x1 y1 z1 T zs H (ex xs q1) (ey ys q2) (ez ws q3) p hT
  · have e : i = min xs.length (min ys.length ws.length) := by omega
    exact .inl ⟨⟨xs, ys, ws, q1, q2, q3, by omega⟩, fun l hl => hd l zs H (by rw [← e]; exact p) hl⟩
end
end L2

set_option Elab.async false
set_option linter.all false
namespace M
/-! ### wheels: plain mathematics -/
def drag (p a x : Int) : Int := if x < a - p then a - p else if a + p < x then a + p else x
theorem drag_mid {p a x : Int} (h0 : 0 ≤ p) : drag p a x - a ≤ p ∧ a - drag p a x ≤ p ∧ (p < x - a → drag p a x = a + p) ∧ (p < a - x → drag p a x = a - p) ∧ (¬ p < x - a → ¬ p < a - x → drag p a x = x) := by
  unfold drag
  split
  · omega
  · split <;> omega
def isTr (ps : List Int) : Prop := 1 ≤ ps.length ∧ ps.length ≤ 12 ∧ ∀ p ∈ ps, 0 ≤ p
def keeps : List Int → Int → List Int → Prop
  | p :: ps, a, x :: xs => (x - a ≤ p ∧ a - x ≤ p) ∧ keeps ps x xs
  | _, _, _ => True
def stand (ps : List Int) (a : Int) (xs : List Int) : Prop := xs.length = ps.length ∧ keeps ps a xs
def dragAll : List Int → List Int → Int → List Int
  | p :: ps, x :: xs, a => drag p a x :: dragAll ps xs (drag p a x)
  | _, _, _ => []
def lastOf : Int → List Int → Int
  | a, [] => a
  | _, x :: xs => lastOf x xs
theorem dropc {α : Type} {xs : List α} {i : Nat} {x : α} (h : xs[i]? = some x) : xs.drop i = x :: xs.drop (i + 1) := by
  obtain ⟨hl, e⟩ := List.getElem?_eq_some_iff.mp h
  rw [List.drop_eq_getElem_cons hl, e]
theorem dragAll_length : ∀ (ps xs : List Int) (a : Int), (dragAll ps xs a).length = min ps.length xs.length
  | [], xs, a => by simp [dragAll]
  | p :: ps, [], a => by simp [dragAll]
  | p :: ps, x :: xs, a => by simp [dragAll, dragAll_length ps xs]
theorem dragAll_keeps : ∀ (ps xs : List Int) (a : Int), (∀ p ∈ ps, 0 ≤ p) → keeps ps a (dragAll ps xs a)
  | [], xs, a, _ => trivial
  | p :: ps, [], a, _ => trivial
  | p :: ps, x :: xs, a, h => by
    have q := drag_mid (p := p) (a := a) (x := x) (h p (List.mem_cons_self))
    exact ⟨⟨q.1, q.2.1⟩, dragAll_keeps ps xs _ fun z hz => h z (List.mem_cons_of_mem _ hz)⟩
theorem dragAll_stand {ps xs : List Int} {a b : Int} (ht : isTr ps) (h : stand ps b xs) : stand ps a (dragAll ps xs a) := by
  refine ⟨?_, dragAll_keeps ps xs a ht.2.2⟩
  rw [dragAll_length, h.1]; omega
theorem dragAll_nil (xs : List Int) (a : Int) : dragAll [] xs a = [] := by simp [dragAll]
theorem dragAll_nil2 (ps : List Int) (a : Int) : dragAll ps [] a = [] := by cases ps <;> simp [dragAll]
/-! ### rows; wheels by themselves -/
def runs (ps : List Int) : List Int → List Int → List (List Int)
  | _, [] => []
  | ws, c :: row => dragAll ps ws c :: runs ps (dragAll ps ws c) row
def hung (d : Int) : Int → List Int → List Int
  | _, [] => []
  | x, c :: row => drag d c x :: hung d (drag d c x) row
def alone : Int → List Int → List Int → Int → List Int
  | d, p :: ps, x :: xs, a => drag (d + p) a x :: alone (d + p) ps xs a
  | _, _, _, _ => []
def depths : Int → List Int → List Int
  | _, [] => []
  | d, p :: ps => (d + p) :: depths (d + p) ps
theorem runs_length (ps : List Int) : ∀ (row ws : List Int), (runs ps ws row).length = row.length
  | [], _ => rfl
  | c :: row, ws => by simp [runs, runs_length ps row]
theorem depths_length : ∀ (ps : List Int) (d : Int), (depths d ps).length = ps.length
  | [], _ => rfl
  | p :: ps, d => by simp [depths, depths_length ps]
/-! ### rows cut, rows filled -/
def endW (ps : List Int) : List Int → List Int → List Int
  | ws, [] => ws
  | ws, c :: row => endW ps (dragAll ps ws c) row
/-- places on the way, in order -/
def Path (a c : Int) : List Int → Prop
  | [] => True
  | s :: ss => ((a ≤ s ∧ s ≤ c) ∨ (c ≤ s ∧ s ≤ a)) ∧ Path s c ss
/-- a row, filled; the marks tell where the row's own places stand -/
def FillOk (a : Int) (row : List Int) (i : Nat) (fs ms : List Int) : Prop := ∀ ps ws : List Int, (∀ p ∈ ps, 0 ≤ p) → keeps ps a ws →
  endW ps ws fs = endW ps ws (row.take i) ∧ ∀ k : Nat, k < i → ∃ m : Nat, ms[k]? = some (m : Int) ∧ m < fs.length ∧ (runs ps ws fs)[m]? = (runs ps ws row)[k]?
def apps : Nat → List (List Int) → List (List Int)
  | _, [] => []
  | k, x :: xs => (x ++ [(k : Int)]) :: apps (k + 1) xs
theorem take_snoc_get {α : Type} {xs : List α} {j : Nat} {x : α} (h : xs[j]? = some x) : xs.take (j + 1) = xs.take j ++ [x] := by
  rw [List.take_add_one, h]; rfl
end M

set_option Elab.async false
set_option linter.all false
namespace M
/-! ### errands: pieces by their numbers, the handle -1 -/
def pc (xs : List Int) (h : Int) (w : Int) : Int := if w < 0 then h else xs.getD w.toNat 0
abbrev Fn := Int → Int
abbrev Must := Int × Int
def mp (D G : Fn) (m : Must) : Int := G m.1 + m.2 * D m.1
def bey (D G : Fn) (a : Must) (w : Int) : Prop := (mp D G a - G w) * a.2 > D w
instance (D G : Fn) (a : Must) (w : Int) : Decidable (bey D G a w) := inferInstanceAs (Decidable (_ > _))
def sgn (F G : Fn) (w : Int) : Int := if F w < G w then 1 else -1
def fm (F G : Fn) : Nat → List Must
  | 0 => if F (-1) = G (-1) then [] else [(-1, sgn F G (-1))]
  | k + 1 => if F k = G k then fm F G k else [((k : Int), sgn F G k)]
def rst (D G : Fn) : Nat → Must → List Must
  | 0, a => if bey D G a (-1) then [(-1, -a.2)] else []
  | k + 1, a => if bey D G a k then ((k : Int), -a.2) :: rst D G k ((k : Int), -a.2) else rst D G k a
def rstOf (D G : Fn) (a : Must) : List Must := if a.1 < 0 then [] else rst D G a.1.toNat a
def paper (n : Nat) (D F G : Fn) : List Must := match fm F G n with
  | [] => []
  | a :: _ => a :: rstOf D G a
/-- where a wheel alone comes to -/
def goj (d x : Int) (row : List Int) : Int := row.foldl (fun x a => drag d a x) x
/-- of the pieces -1 .. n - 1 -/
def Pcs (n : Nat) (D G : Fn) : Prop := D (-1) = 0 ∧ ∀ i j : Int, -1 ≤ i → i ≤ j → j < n → 0 ≤ D i ∧ D i ≤ D j ∧ G j - G i ≤ D j - D i ∧ G i - G j ≤ D j - D i
theorem fm_spec {F G : Fn} : ∀ (n : Nat), (fm F G n = [] ∧ ∀ j : Int, -1 ≤ j → j < n → F j = G j) ∨ ∃ w : Int, fm F G n = [(w, sgn F G w)] ∧ -1 ≤ w ∧ w < n ∧ F w ≠ G w ∧ ∀ j : Int, w < j → j < n → F j = G j
  | 0 => by
    simp only [fm]
    split
    · rename_i h
      refine .inl ⟨rfl, fun j h1 h2 => ?_⟩
      have : j = -1 := by omega
      rw [this]; exact h
    · rename_i h
      exact .inr ⟨-1, rfl, by omega, by omega, h, fun j h1 h2 => by omega⟩
  | k + 1 => by
    simp only [fm]
    split
    · rename_i h
      rcases fm_spec (F := F) (G := G) k with ⟨e, q⟩ | ⟨w, e, h1, h2, h3, h4⟩
      · refine .inl ⟨e, fun j h1 h2 => ?_⟩
        by_cases e : j = k
        · rw [e]; exact h
        · exact q j h1 (by omega)
      · refine .inr ⟨w, e, h1, by omega, h3, fun j z1 z2 => ?_⟩
        by_cases e : j = k
        · rw [e]; exact h
        · exact h4 j z1 (by omega)
    · rename_i h
      exact .inr ⟨k, rfl, by omega, by omega, h, fun j h1 h2 => by omega⟩
/-! ### papers -/
def okMust (n : Nat) (m : Must) : Prop := -1 ≤ m.1 ∧ m.1 < n ∧ (m.2 = 1 ∨ m.2 = -1)
def fstOk (F G : Fn) (m : Must) : Prop := F m.1 ≠ G m.1 ∧ m.2 = sgn F G m.1
def nxt (D G : Fn) (a m : Must) : Prop := m.2 = -a.2 ∧ bey D G a m.1
def chain (n : Nat) (D G : Fn) : Must → List Must → Prop
  | _, [] => True
  | a, m :: ms => okMust n m ∧ nxt D G a m ∧ chain n D G m ms
def isPap (n : Nat) (D F G : Fn) : List Must → Prop
  | [] => True
  | m :: ms => okMust n m ∧ fstOk F G m ∧ chain n D G m ms
theorem rst_chain {n : Nat} {D G : Fn} : ∀ (k : Nat) (a : Must), (a.2 = 1 ∨ a.2 = -1) → k ≤ n → chain n D G a (rst D G k a)
  | 0, a, hs, hk => by
    simp only [rst]
    split
    · rename_i h
      exact ⟨⟨by simp only; omega, by simp only; omega, by simp only; omega⟩, ⟨rfl, h⟩, trivial⟩
    · trivial
  | k + 1, a, hs, hk => by
    simp only [rst]
    split
    · rename_i h
      exact ⟨⟨by simp only; omega, by simp only; omega, by simp only; omega⟩, ⟨rfl, h⟩, rst_chain k _ (by simp only; omega) (by omega)⟩
    · exact rst_chain k a hs (by omega)
theorem paper_isPap {n : Nat} {D F G : Fn} : isPap n D F G (paper n D F G) := by
  unfold paper
  rcases fm_spec (F := F) (G := G) n with ⟨e, q⟩ | ⟨w, e, h1, h2, h3, h4⟩
  · rw [e]; trivial
  · rw [e]
    have hs : sgn F G w = 1 ∨ sgn F G w = -1 := by unfold sgn; split <;> simp
    refine ⟨⟨h1, h2, hs⟩, ⟨h3, rfl⟩, ?_⟩
    unfold rstOf
    split
    · trivial
    · rename_i hw
      simp only at hw
      exact rst_chain _ _ hs (by simp only; omega)
theorem rst_length {D G : Fn} : ∀ (k : Nat) (a : Must), (rst D G k a).length ≤ k + 1
  | 0, a => by simp only [rst]; split <;> simp
  | k + 1, a => by
    simp only [rst]
    split
    · have := rst_length (D := D) (G := G) k ((k : Int), -a.2); simp; omega
    · have := rst_length (D := D) (G := G) k a; omega
theorem paper_length {n : Nat} {D F G : Fn} : (paper n D F G).length ≤ n + 1 := by
  unfold paper
  rcases fm_spec (F := F) (G := G) n with ⟨e, q⟩ | ⟨w, e, h1, h2, h3, h4⟩
  · rw [e]; simp
  · rw [e]
    simp only [List.length_cons, rstOf]
    split
    · simp
    · rename_i hw
      have := rst_length (D := D) (G := G) w.toNat (w, sgn F G w)
      omega
/-- a paper, must by must -/
def stepAt (D F G : Fn) (ms : List Must) (k : Nat) : Prop := ∀ m, ms[k]? = some m → (k = 0 → fstOk F G m) ∧ ∀ a, 0 < k → ms[k - 1]? = some a → nxt D G a m
/-! ### ways -/
def ab (i : Int) : Int := if i < 0 then -i else i
def way : Int → List Int → Int
  | _, [] => 0
  | h, x :: r => ab (x - h) + way x r
def wayL : List Int → Int
  | [] => 0
  | h :: r => way h r
theorem wayL_two (x y : Int) (r : List Int) : wayL (x :: y :: r) = ab (y - x) + wayL (y :: r) := rfl
theorem wayL_short : ∀ {xs : List Int}, xs.length ≤ 1 → wayL xs = 0
  | [], _ => rfl
  | [_], _ => rfl
  | _ :: _ :: _, h => by simp at h
theorem lastOf_append : ∀ (r1 r2 : List Int) (h : Int), lastOf h (r1 ++ r2) = lastOf (lastOf h r1) r2
  | [], _, _ => rfl
  | x :: r, r2, h => by simp only [List.cons_append, lastOf]; exact lastOf_append r r2 x
/-! ### by loops going down -/
def rr (D G : Fn) : Nat → Must → List Must
  | 0, _ => []
  | k + 1, a => rst D G k a
theorem rr_step (D G : Fn) (k : Nat) (a : Must) : rr D G (k + 1) a = if bey D G a ((k : Int) - 1) then ((k : Int) - 1, -a.2) :: rr D G k ((k : Int) - 1, -a.2) else rr D G k a := by
  cases k with
  | zero => simp [rr, rst]
  | succ k => simp only [rr, rst]; rw [show ((k + 1 : Nat) : Int) - 1 = k by omega]
theorem rr_of (D G : Fn) (a : Must) (h : -1 ≤ a.1) : rstOf D G a = rr D G (a.1 + 1).toNat a := by
  unfold rstOf
  split
  · rw [show (a.1 + 1).toNat = 0 by omega]; rfl
  · rw [show (a.1 + 1).toNat = a.1.toNat + 1 by omega]; rfl
def ff (F G : Fn) : Nat → List Must
  | 0 => []
  | k + 1 => fm F G k
theorem ff_step (F G : Fn) (k : Nat) : ff F G (k + 1) = if F ((k : Int) - 1) = G ((k : Int) - 1) then ff F G k else [((k : Int) - 1, sgn F G ((k : Int) - 1))] := by
  cases k with
  | zero => simp [ff, fm]
  | succ k => simp only [ff, fm]; rw [show ((k + 1 : Nat) : Int) - 1 = k by omega]
/-! ### lists -/
theorem pc_neg (xs : List Int) (h : Int) : pc xs h (-1) = h := by simp [pc]
theorem pc_nat {xs : List Int} {h : Int} {k : Nat} {x : Int} (e : xs[k]? = some x) : pc xs h (k : Int) = x := by
  simp only [pc]
  rw [if_neg (by omega)]
  simp [List.getD, e]
theorem pc_get {xs : List Int} {h w : Int} (h0 : 0 ≤ w) (h1 : w < xs.length) : xs[w.toNat]? = some (pc xs h w) := by
  have : w.toNat < xs.length := by omega
  simp only [pc]
  rw [if_neg (by omega)]
  simp [List.getD, this]
theorem adj : ∀ (ps xs : List Int) (d a : Int), (∀ p ∈ ps, 0 ≤ p) → keeps ps a xs → xs.length = ps.length → ∀ k : Nat, k < ps.length →
    ∃ p, 0 ≤ p ∧ pc (depths d ps) d k - pc (depths d ps) d ((k : Int) - 1) = p ∧ pc xs a k - pc xs a ((k : Int) - 1) ≤ p ∧ pc xs a ((k : Int) - 1) - pc xs a k ≤ p
  | [], _, _, _, _, _, _, k, hk => by simp at hk
  | p :: ps, [], d, a, h0, hk, hl, k, hkk => by simp at hl
  | p :: ps, x :: xs, d, a, h0, hk, hl, 0, hkk => by
    refine ⟨p, h0 p List.mem_cons_self, ?_, ?_⟩
    · rw [show ((0 : Nat) : Int) - 1 = -1 by omega, pc_neg, pc_nat (x := d + p) (by simp [depths])]; omega
    · rw [show ((0 : Nat) : Int) - 1 = -1 by omega, pc_neg, pc_nat (x := x) (by simp)]
      exact ⟨by have := hk.1; omega, by have := hk.1; omega⟩
  | p :: ps, x :: xs, d, a, h0, hk, hl, k + 1, hkk => by
    obtain ⟨q, q0, q1, q2, q3⟩ := adj ps xs (d + p) x (fun z hz => h0 z (List.mem_cons_of_mem _ hz)) hk.2 (by simpa using hl) k (by simpa using hkk)
    have sh : ∀ (ys : List Int) (y b c : Int) , pc (y :: ys) b ((k + 1 : Nat) : Int) = pc ys c k := fun ys y b c => by
      simp only [pc]
      rw [if_neg (by omega), if_neg (by omega)]
      simp [show ((k : Int) + 1).toNat = k + 1 by omega]
    have sh2 : ∀ (ys : List Int) (y b : Int) , pc (y :: ys) b (((k + 1 : Nat) : Int) - 1) = pc ys y ((k : Int) - 1) := fun ys y b => by
      simp only [pc]
      rw [if_neg (by omega)]
      cases k with
      | zero => simp
      | succ k => rw [if_neg (by omega)]; simp [show ((k + 1 : Nat) : Int).toNat = k + 1 by omega, show (((k + 1 : Nat) : Int) - 1).toNat = k by omega]
    refine ⟨q, q0, ?_, ?_, ?_⟩
    · simp only [depths]
      rw [sh _ _ _ (d + p), sh2]; exact q1
    · rw [sh _ _ _ x, sh2]; exact q2
    · rw [sh _ _ _ x, sh2]; exact q3
theorem pcs_of {ps xs : List Int} {a : Int} (h0 : ∀ p ∈ ps, 0 ≤ p) (hk : stand ps a xs) : Pcs ps.length (pc (depths 0 ps) 0) (pc xs a) := by
  have A := adj ps xs 0 a h0 hk.2 hk.1
  have base : ∀ (k : Nat) (i : Int), -1 ≤ i → i + k < ps.length → 0 ≤ pc (depths 0 ps) 0 i → pc (depths 0 ps) 0 i ≤ pc (depths 0 ps) 0 (i + k) ∧ pc xs a (i + k) - pc xs a i ≤ pc (depths 0 ps) 0 (i + k) - pc (depths 0 ps) 0 i ∧ pc xs a i - pc xs a (i + k) ≤ pc (depths 0 ps) 0 (i + k) - pc (depths 0 ps) 0 i := by
    intro k
    induction k with
    | zero => intro i _ _ _; simp
    | succ k ih =>
      intro i h1 h2 h3
      have := ih i h1 (by omega) h3
      obtain ⟨q, q0, q1, q2, q3⟩ := A (i + k + 1).toNat (by omega)
      rw [show (((i + k + 1).toNat : Nat) : Int) = i + k + 1 by omega, show i + (k : Int) + 1 - 1 = i + k by omega] at q1 q2 q3
      rw [show i + ((k + 1 : Nat) : Int) = i + k + 1 by omega]
      omega
  refine ⟨pc_neg _ _, fun i j h1 h2 h3 => ?_⟩
  have b0 : 0 ≤ pc (depths 0 ps) 0 i := by
    have := base (i + 1).toNat (-1) (by omega) (by omega) (by rw [pc_neg]; omega)
    rw [show -1 + (((i + 1).toNat : Nat) : Int) = i by omega, pc_neg] at this
    exact this.1
  have := base (j - i).toNat i h1 (by omega) b0
  rw [show i + (((j - i).toNat : Nat) : Int) = j by omega] at this
  exact ⟨b0, this⟩
/-- the told row -/
def told (ps : List Int) (h : Int) (ws : List Int) (e : Int) (gs : List Int) : List Must := paper ps.length (pc (depths 0 ps) 0) (pc ws h) (pc gs e)
def toldRow (ps : List Int) (h : Int) (ws : List Int) (e : Int) (gs : List Int) : List Int := (told ps h ws e gs).map (mp (pc (depths 0 ps) 0) (pc gs e))
end M

set_option Elab.async false
set_option linter.all false
namespace M
/-! ### turning places -/
def mvFrom : Int → List Int → List Int
  | _, [] => []
  | l, x :: r => if x = l then mvFrom l r else x :: mvFrom x r
def moves : List Int → List Int
  | [] => []
  | x :: r => x :: mvFrom x r
def tn : Int → Int → List Int → List Int
  | _, b, [] => [b]
  | a, b, c :: r => if decide (a < b) = decide (c < b) then b :: tn b c r else tn b c r
def tl (h : Int) : List Int → List Int
  | [] => []
  | c :: m => tn h c m
def turn : List Int → List Int
  | [] => []
  | a :: m => a :: tl a m
/-- unlike each to the next -/
def ch : Int → List Int → Prop
  | _, [] => True
  | a, b :: r => b ≠ a ∧ ch b r
theorem ch_mv : ∀ (r : List Int) (l : Int), ch l (mvFrom l r)
  | [], _ => trivial
  | x :: r, l => by
    simp only [mvFrom]
    split
    · exact ch_mv r l
    · rename_i h
      exact ⟨h, ch_mv r x⟩
/-- up: z lies above the one ahead of it; the rest by turns -/
def alts : Bool → Int → List Int → Prop
  | _, _, [] => True
  | true, z, y :: r => y < z ∧ alts false y r
  | false, z, y :: r => z < y ∧ alts true y r
theorem tn_spec : ∀ (r : List Int) (a b : Int), b ≠ a → ch b r → ∃ z zs, tn a b r = z :: zs ∧ (a < b → b ≤ z) ∧ (b < a → z ≤ b) ∧ alts (decide (a < b)) z zs ∧ (z = b → zs = tl b r)
  | [], a, b, h, _ => ⟨b, [], rfl, fun _ => Int.le_refl _, fun _ => Int.le_refl _, by cases decide (a < b) <;> trivial, fun _ => rfl⟩
  | c :: r, a, b, h, hc => by
    obtain ⟨z, zs, e, h1, h2, h3, h4⟩ := tn_spec r b c hc.1 hc.2
    have hcb := hc.1
    simp only [tn]
    split
    · rename_i g
      refine ⟨b, tn b c r, rfl, fun _ => Int.le_refl _, fun _ => Int.le_refl _, ?_, fun _ => rfl⟩
      rw [e]
      by_cases q : a < b
      · have q2 : c < b := by rw [decide_eq_true q] at g; exact of_decide_eq_true g.symm
        have q3 : ¬ b < c := by omega
        rw [decide_eq_true q]
        rw [decide_eq_false q3] at h3
        exact ⟨by have := h2 q2; omega, h3⟩
      · have q2 : ¬ c < b := by rw [decide_eq_false q] at g; exact of_decide_eq_false g.symm
        have q3 : b < c := by omega
        rw [decide_eq_false q]
        rw [decide_eq_true q3] at h3
        exact ⟨by have := h1 q3; omega, h3⟩
    · rename_i g
      by_cases q : a < b
      · have q2 : ¬ c < b := fun z => g (by rw [decide_eq_true q, decide_eq_true z])
        have q3 : b < c := by omega
        rw [decide_eq_true q3] at h3
        rw [decide_eq_true q]
        exact ⟨z, zs, e, fun _ => by have := h1 q3; omega, fun z => by omega, h3, fun z => by have := h1 q3; omega⟩
      · have q2 : c < b := by
          by_cases z : c < b
          · exact z
          · exact absurd (by rw [decide_eq_false q, decide_eq_false z]) g
        have q3 : ¬ b < c := by omega
        rw [decide_eq_false q3] at h3
        rw [decide_eq_false q]
        exact ⟨z, zs, e, fun z => by omega, fun _ => by have := h2 q2; omega, h3, fun z => by have := h2 q2; omega⟩
theorem tn_last : ∀ (r : List Int) (a b : Int), lastOf a (tn a b r) = lastOf b r
  | [], a, b => rfl
  | c :: r, a, b => by
    simp only [tn]
    split
    · show lastOf b (tn b c r) = _
      exact tn_last r b c
    · have h1 := tn_last r b c
      have : ∀ x y : Int, lastOf x (tn b c r) = lastOf y (tn b c r) := by
        intro x y
        cases e : tn b c r with
        | nil => exfalso; exact tn_ne r b c e
        | cons z zs => rfl
      rw [this a b]; exact h1
where tn_ne : ∀ (r : List Int) (a b : Int), tn a b r ≠ []
  | [], a, b => by simp [tn]
  | c :: r, a, b => by
    simp only [tn]
    split
    · simp
    · exact tn_ne r b c
/-- places doubled -/
def rep (n : Nat) : List Int → List Int
  | [] => []
  | x :: r => List.replicate n x ++ rep n r
theorem tn_length : ∀ (r : List Int) (a b : Int), (tn a b r).length ≤ r.length + 1
  | [], a, b => by simp [tn]
  | c :: r, a, b => by
    have := tn_length r b c
    simp only [tn]; split <;> simp <;> omega
theorem mv_length : ∀ (r : List Int) (l : Int), (mvFrom l r).length ≤ r.length
  | [], _ => by simp [mvFrom]
  | x :: r, l => by
    simp only [mvFrom]
    split
    · have := mv_length r l; simp; omega
    · have := mv_length r x; simp; omega
theorem turn_length (row : List Int) : (turn (moves row)).length ≤ row.length := by
  cases row with
  | nil => simp [turn, moves]
  | cons x r =>
    have h := mv_length r x
    simp only [turn, moves, List.length_cons]
    cases e : mvFrom x r with
    | nil => simp [tl]
    | cons c m =>
      have := tn_length m x c
      rw [e] at h
      simp only [tl]
      simp at h
      omega
/-! ### going by the turning places -/
/-- h: the last turning reached; p: where the row is; rest: the turnings ahead; m: the moves ahead -/
def GoSt (h p : Int) (rest m : List Int) : Prop := (p = h ∧ rest = tl h m) ∨ (p ≠ h ∧ rest = tn h p m ∧ ∀ t rs, rest = t :: rs → t ≠ p)
theorem alts_step {u : Bool} {z y : Int} {r : List Int} (h : alts u z (y :: r)) : (u = true → y < z) ∧ (u = false → z < y) ∧ alts (!u) y r := by
  cases u with
  | true => exact ⟨fun _ => h.1, (fun z => by cases z), h.2⟩
  | false => exact ⟨(fun z => by cases z), fun _ => h.1, h.2⟩

def altL : List Int → Prop
  | a :: b :: r => b ≠ a ∧ alts (decide (a < b)) b r
  | _ => True
theorem altL_tail {a : Int} {l : List Int} (h : altL (a :: l)) : altL l := by
  match l, h with
  | [], _ => trivial
  | [b], _ => trivial
  | b :: c :: r, h =>
    obtain ⟨h1, h2⟩ := h
    have q := alts_step h2
    by_cases e : a < b
    · rw [decide_eq_true e] at q
      have := q.1 rfl
      refine ⟨by omega, ?_⟩
      rw [decide_eq_false (show ¬ b < c by omega)]
      exact q.2.2
    · rw [decide_eq_false e] at q
      have := q.2.1 rfl
      refine ⟨by omega, ?_⟩
      rw [decide_eq_true (show b < c by omega)]
      exact q.2.2
theorem turn_alt (row : List Int) : altL (turn (moves row)) := by
  cases row with
  | nil => trivial
  | cons x r =>
    show altL (x :: tl x (mvFrom x r))
    have hc := ch_mv r x
    cases e : mvFrom x r with
    | nil => trivial
    | cons c m =>
      rw [e] at hc
      obtain ⟨z, zs, e1, h1, h2, h3, _⟩ := tn_spec m x c hc.1 hc.2
      have hcx := hc.1
      show altL (x :: tn x c m)
      rw [e1]
      by_cases q : x < c
      · have := h1 q
        refine ⟨by omega, ?_⟩
        rw [decide_eq_true (show x < z by omega)]
        rwa [decide_eq_true q] at h3
      · have := h2 (by omega)
        refine ⟨by omega, ?_⟩
        rw [decide_eq_false (show ¬ x < z by omega)]
        rwa [decide_eq_false q] at h3
end M

set_option Elab.async false
set_option linter.all false
namespace M
/-! ### standing places: a row and its standing places do the same to whatever is dragged -/
def btw (a c p : Int) : Prop := (a ≤ p ∧ p ≤ c) ∨ (c ≤ p ∧ p ≤ a)
def fo {σ : Type} (f : Int → σ → σ) (x : σ) (L : List Int) : σ := L.foldl (fun y p => f p y) x
theorem fo_app {σ : Type} (f : Int → σ → σ) (x : σ) (L M : List Int) : fo f x (L ++ M) = fo f (fo f x L) M := by unfold fo; rw [List.foldl_append]
theorem fo_cons {σ : Type} (f : Int → σ → σ) (x : σ) (p : Int) (L : List Int) : fo f x (p :: L) = fo f (f p x) L := rfl
/-- what lies between two places that are both gone to leaves nothing -/
structure Sys {σ : Type} (f : Int → σ → σ) : Prop where
  idem : ∀ p x, f p (f p x) = f p x
  wipe : ∀ (a c : Int) (L0 L1 : List Int) (x : σ), (∀ p ∈ L0, btw a c p) → (∀ p ∈ L1, btw a c p) → fo f x (L0 ++ a :: (L1 ++ [c])) = f c (f a x)
def StdOf (row S : List Int) : Prop := ∀ (σ : Type) (f : Int → σ → σ), Sys f → ∀ x, fo f x row = fo f x S
theorem Sys.same {σ : Type} {f : Int → σ → σ} (h : Sys f) {p : Int} : ∀ (L : List Int) (x : σ), (∀ q ∈ L, q = p) → fo f (f p x) L = f p x
  | [], x, _ => rfl
  | q :: L, x, hq => by
    rw [hq q List.mem_cons_self, fo_cons, h.idem, h.same L x fun q hq' => hq q (List.mem_cons_of_mem _ hq')]
theorem mv_one : ∀ (r : List Int) (l : Int), mvFrom l r = [] → ∀ q ∈ r, q = l
  | [], l, _, q, h => by simp at h
  | x :: r, l, e, q, h => by
    simp only [mvFrom] at e
    split at e
    · rename_i hx
      rcases List.mem_cons.mp h with z | z
      · rw [z]; exact hx
      · exact mv_one r l e q z
    · cases e
theorem tl_len : ∀ (m : List Int) (h : Int), m ≠ [] → 1 ≤ (tl h m).length
  | [], h, z => absurd rfl z
  | c :: m, h, _ => by
    have go : ∀ (m : List Int) (a b : Int), 1 ≤ (tn a b m).length := by
      intro m
      induction m with
      | nil => intro a b; simp [tn]
      | cons c m ih =>
        intro a b
        simp only [tn]
        split
        · simp
        · exact ih b c
    exact go m h c
/-- a row that stays at one place -/
theorem std_short {row : List Int} (h : (turn (moves row)).length < 2) : StdOf row (turn (moves row)) ∧ (turn (moves row)).getLast? = row.getLast? ∧ (∀ p ∈ turn (moves row), p ∈ row) ∧ (turn (moves row)).length ≤ row.length := by
  cases row with
  | nil => exact ⟨fun _ _ _ _ => rfl, rfl, by simp [moves, turn], by simp [moves, turn]⟩
  | cons a r =>
    have e : mvFrom a r = [] := by
      cases q : mvFrom a r with
      | nil => rfl
      | cons c m =>
        simp only [moves, turn, q, List.length_cons] at h
        have := tl_len (c :: m) a (by simp)
        omega
    have hall := mv_one r a e
    have et : turn (moves (a :: r)) = [a] := by simp [moves, turn, e, tl]
    rw [et]
    refine ⟨fun σ f hf x => ?_, ?_, by simp, by simp⟩
    · rw [fo_cons, hf.same r x hall]
      rfl
    · cases r with
      | nil => rfl
      | cons b r =>
        have : (a :: b :: r).getLast? = some ((a :: b :: r).getLast (by simp)) := List.getLast?_eq_some_getLast (by simp)
        rw [this]
        have hm := List.getLast_mem (l := a :: b :: r) (by simp)
        rcases List.mem_cons.mp hm with z | z
        · simp [z]
        · rw [hall _ z]; rfl
theorem turn_long {row : List Int} (h : ¬ (turn (moves row)).length < 2) : ∃ p ∈ row, ∃ q ∈ row, p ≠ q := by
  cases row with
  | nil => simp [moves, turn] at h
  | cons a r =>
    cases q : mvFrom a r with
    | nil => simp [moves, turn, q, tl] at h
    | cons c m =>
      have hne : ∀ (r : List Int) (l c : Int) (m : List Int), mvFrom l r = c :: m → c ∈ r ∧ c ≠ l := by
        intro r
        induction r with
        | nil => intro l c m e; simp [mvFrom] at e
        | cons x r ih =>
          intro l c m e
          simp only [mvFrom] at e
          split at e
          · obtain ⟨h1, h2⟩ := ih l c m e
            exact ⟨List.mem_cons_of_mem _ h1, h2⟩
          · rename_i hx
            cases e
            exact ⟨List.mem_cons_self, hx⟩
      obtain ⟨h1, h2⟩ := hne r a c m q
      exact ⟨c, List.mem_cons_of_mem _ h1, a, List.mem_cons_self, h2⟩
/-- t is the last time of c -/
def LastT (row : List Int) (c : Int) (t : Nat) : Prop := row[t]? = some c ∧ ∀ k, t < k → row[k]? ≠ some c
theorem LastT.uniq {row : List Int} {c : Int} {t u : Nat} (h : LastT row c t) (g : LastT row c u) : t = u := by
  rcases Nat.lt_trichotomy t u with z | z | z
  · exact absurd g.1 (h.2 u z)
  · exact z
  · exact absurd h.1 (g.2 t z)
/-- how far the standing places have been told -/
structure Told (row S : List Int) (c : Int) (t : Nat) (b : Bool) : Prop where
  lt : LastT row c t
  en : ∃ ini, S = ini ++ [c]
  sub : ∀ p ∈ S, p ∈ row
  len : S.length ≤ t + 1
  side : ∀ p ∈ row.drop (t + 1), if b then p < c else c < p
  fold : ∀ (σ : Type) (f : Int → σ → σ), Sys f → ∀ x, fo f x (row.take (t + 1)) = fo f x S
theorem mem_drop_iff {row : List Int} {n : Nat} {p : Int} : p ∈ row.drop n ↔ ∃ k, n ≤ k ∧ row[k]? = some p := by
  constructor
  · intro h
    obtain ⟨i, hi⟩ := List.mem_iff_getElem?.mp h
    rw [List.getElem?_drop] at hi
    exact ⟨n + i, by omega, hi⟩
  · rintro ⟨k, hk, e⟩
    refine List.mem_iff_getElem?.mpr ⟨k - n, ?_⟩
    rw [List.getElem?_drop, show n + (k - n) = k by omega]
    exact e
theorem mem_mid {row : List Int} {a n : Nat} {p : Int} (h : p ∈ (row.drop a).take n) : ∃ k, a ≤ k ∧ k < a + n ∧ row[k]? = some p := by
  obtain ⟨i, hi⟩ := List.mem_iff_getElem?.mp h
  rw [List.getElem?_take] at hi
  split at hi
  · rw [List.getElem?_drop] at hi
    exact ⟨a + i, by omega, by omega, hi⟩
  · cases hi
theorem take_cut {row : List Int} {t u : Nat} {c : Int} (h : t < u) (hc : row[u]? = some c) : row.take (u + 1) = row.take (t + 1) ++ ((row.drop (t + 1)).take (u - t - 1) ++ [c]) := by
  rw [take_snoc_get hc, ← List.append_assoc]
  congr 1
  rw [← List.take_append_drop (t + 1) (row.take u), List.take_take, Nat.min_eq_left (by omega), List.drop_take]
  congr 2
theorem told_first {row : List Int} {m M : Int} {tm tM : Nat} (hm : LastT row m tm) (hM : LastT row M tM) (hb : ∀ p ∈ row, m ≤ p ∧ p ≤ M) (hne : m ≠ M) :
    (tm < tM → Told row [m, M] M tM true) ∧ (¬ tm < tM → Told row [M, m] m tm false) := by
  have hmm : m ∈ row := List.mem_of_getElem? hm.1
  have hMM : M ∈ row := List.mem_of_getElem? hM.1
  have cut : ∀ {a c : Int} {ta tc : Nat}, row[ta]? = some a → row[tc]? = some c → ta < tc → row.take (tc + 1) = row.take ta ++ a :: ((row.drop (ta + 1)).take (tc - ta - 1) ++ [c]) := by
    intro a c ta tc ha hc hlt
    rw [take_cut hlt hc, take_snoc_get ha, List.append_assoc]
    rfl
  refine ⟨fun h => ⟨hM, ⟨[m], rfl⟩, ?_, by simp; omega, fun p hp => ?_, fun σ f hf x => ?_⟩, fun h => ?_⟩
  · intro p hp
    simp at hp
    rcases hp with rfl | rfl
    · exact hmm
    · exact hMM
  · obtain ⟨k, hk, e⟩ := mem_drop_iff.mp hp
    have h1 := (hb p (List.mem_of_getElem? e)).2
    have h2 : p ≠ M := fun z => hM.2 k (by omega) (z ▸ e)
    simp only [if_true]
    omega
  · rw [cut hm.1 hM.1 h]
    refine (hf.wipe m M _ _ x (fun p hp => .inl (hb p (List.mem_of_mem_take hp))) fun p hp => ?_).trans rfl
    obtain ⟨k, _, _, e⟩ := mem_mid hp
    exact .inl (hb p (List.mem_of_getElem? e))
  · have hlt : tM < tm := by
      rcases Nat.lt_trichotomy tm tM with z | z | z
      · exact absurd z h
      · exfalso
        have h1 := hm.1
        rw [z, hM.1] at h1
        exact hne (Option.some.inj h1).symm
      · exact z
    refine ⟨hm, ⟨[M], rfl⟩, ?_, by simp; omega, fun p hp => ?_, fun σ f hf x => ?_⟩
    · intro p hp
      simp at hp
      rcases hp with rfl | rfl
      · exact hMM
      · exact hmm
    · obtain ⟨k, hk, e⟩ := mem_drop_iff.mp hp
      have h1 := (hb p (List.mem_of_getElem? e)).1
      have h2 : p ≠ m := fun z => hm.2 k (by omega) (z ▸ e)
      simp only [Bool.false_eq_true, if_false]
      omega
    · rw [cut hM.1 hm.1 hlt]
      refine (hf.wipe M m _ _ x (fun p hp => .inr (hb p (List.mem_of_mem_take hp))) fun p hp => ?_).trans rfl
      obtain ⟨k, _, _, e⟩ := mem_mid hp
      exact .inr (hb p (List.mem_of_getElem? e))
theorem told_next {row S : List Int} {c d : Int} {t u : Nat} {b : Bool} (T : Told row S c t b) (hd : d ∈ row.drop (t + 1)) (hu : LastT row d u) (hx : ∀ p ∈ row.drop (t + 1), if b then d ≤ p else p ≤ d) : t < u ∧ Told row (S ++ [d]) d u (!b) := by
  obtain ⟨k, hk, e⟩ := mem_drop_iff.mp hd
  have htu : t < u := by
    rcases Nat.lt_or_ge u k with z | z
    · exact absurd e (hu.2 k z)
    · omega
  refine ⟨htu, hu, ⟨S, rfl⟩, ?_, by have := T.len; simp; omega, fun p hp => ?_, fun σ f hf x => ?_⟩
  · intro p hp
    rcases List.mem_append.mp hp with z | z
    · exact T.sub p z
    · simp at z; subst z; exact List.mem_of_getElem? e
  · obtain ⟨k2, hk2, e2⟩ := mem_drop_iff.mp hp
    have h1 := hx p (mem_drop_iff.mpr ⟨k2, by omega, e2⟩)
    have h2 : p ≠ d := fun z => hu.2 k2 (by omega) (z ▸ e2)
    cases b <;> simp at h1 ⊢ <;> omega
  · obtain ⟨ini, hini⟩ := T.en
    rw [take_cut htu hu.1, fo_app, T.fold σ f hf x, fo_app, hini, fo_app]
    have hmid : ∀ p ∈ (row.drop (t + 1)).take (u - t - 1), btw c d p := fun p hp => by
      have hp2 := List.mem_of_mem_take hp
      have h1 := hx p hp2
      have h2 := T.side p hp2
      cases b <;> simp at h1 h2
      · exact .inl ⟨by omega, h1⟩
      · exact .inr ⟨h1, by omega⟩
    have w := hf.wipe c d [] _ (fo f x ini) (by simp) hmid
    rw [List.nil_append, fo_cons, fo_app] at w
    rw [fo_app f x (ini ++ [c]) [d], fo_app f x ini [c]]
    exact w
/-- a slow switch -/
def swf (lo hi : Int) (c : Int) (b : Bool) : Bool := if hi ≤ c then true else if c ≤ lo then false else b
theorem sw_on {lo hi : Int} : ∀ (L : List Int), (∀ p ∈ L, lo < p) → fo (swf lo hi) true L = true
  | [], _ => rfl
  | p :: L, h => by
    have hp := h p List.mem_cons_self
    rw [fo_cons]
    have : swf lo hi p true = true := by unfold swf; split; rfl; rw [if_neg (by omega)]
    rw [this]
    exact sw_on L fun q hq => h q (List.mem_cons_of_mem _ hq)
theorem sw_off {lo hi : Int} : ∀ (L : List Int), (∀ p ∈ L, p < hi) → fo (swf lo hi) false L = false
  | [], _ => rfl
  | p :: L, h => by
    have hp := h p List.mem_cons_self
    rw [fo_cons]
    have : swf lo hi p false = false := by unfold swf; rw [if_neg (by omega)]; split <;> rfl
    rw [this]
    exact sw_off L fun q hq => h q (List.mem_cons_of_mem _ hq)
theorem sw_sys {lo hi : Int} (h : lo < hi) : Sys (swf lo hi) := by
  refine ⟨fun p x => ?_, fun a c L0 L1 x h0 h1 => ?_⟩
  · unfold swf
    split
    · rfl
    · split <;> rfl
  · rw [show L0 ++ a :: (L1 ++ [c]) = (L0 ++ a :: L1) ++ [c] by simp, fo_app]
    show swf lo hi c _ = _
    by_cases c1 : hi ≤ c
    · unfold swf; rw [if_pos c1, if_pos c1]
    · by_cases c2 : c ≤ lo
      · unfold swf; rw [if_neg c1, if_neg c1, if_pos c2, if_pos c2]
      · have key : fo (swf lo hi) x (L0 ++ a :: L1) = swf lo hi a x := by
          rw [fo_app, fo_cons]
          by_cases a1 : hi ≤ a
          · have e : ∀ y, swf lo hi a y = true := fun y => by unfold swf; rw [if_pos a1]
            rw [e, e, sw_on L1 fun p hp => by rcases h1 p hp with z | z <;> omega]
          · by_cases a2 : a ≤ lo
            · have e : ∀ y, swf lo hi a y = false := fun y => by unfold swf; rw [if_neg a1, if_pos a2]
              rw [e, e, sw_off L1 fun p hp => by rcases h1 p hp with z | z <;> omega]
            · have e : ∀ y, swf lo hi a y = y := fun y => by unfold swf; rw [if_neg a1, if_neg a2]
              have stay : ∀ (L : List Int) (y : Bool), (∀ p ∈ L, btw a c p) → fo (swf lo hi) y L = y := by
                intro L y hL
                cases y with
                | true => exact sw_on L fun p hp => by rcases hL p hp with z | z <;> omega
                | false => exact sw_off L fun p hp => by rcases hL p hp with z | z <;> omega
              rw [stay L0 x h0, e, stay L1 x h1]
        rw [key]
end M

set_option Elab.async false
set_option linter.all false
namespace M
/-! ### the standing places are one list; another row with the same ones -/
/-- how standing places are told, one by one -/
inductive Gen (row : List Int) : List Int → Int → Nat → Bool → Prop
  | up {m M : Int} {tm tM : Nat} : LastT row m tm → LastT row M tM → (∀ p ∈ row, m ≤ p ∧ p ≤ M) → m ≠ M → tm < tM → Gen row [m, M] M tM true
  | down {m M : Int} {tm tM : Nat} : LastT row m tm → LastT row M tM → (∀ p ∈ row, m ≤ p ∧ p ≤ M) → m ≠ M → ¬ tm < tM → Gen row [M, m] m tm false
  | next {S : List Int} {c d : Int} {t u : Nat} {b : Bool} : Gen row S c t b → d ∈ row.drop (t + 1) → LastT row d u → (∀ p ∈ row.drop (t + 1), if b then d ≤ p else p ≤ d) → Gen row (S ++ [d]) d u (!b)
theorem Gen.told {row S : List Int} {c : Int} {t : Nat} {b : Bool} (h : Gen row S c t b) : Told row S c t b := by
  induction h with
  | up h1 h2 h3 h4 h5 => exact (told_first h1 h2 h3 h4).1 h5
  | down h1 h2 h3 h4 h5 => exact (told_first h1 h2 h3 h4).2 h5
  | next _ h1 h2 h3 ih => exact (told_next ih h1 h2 h3).2
/-- each next one strictly within the two ahead of it -/
def Nest : List Int → Prop
  | a :: c :: r => a ≠ c ∧ (match r with | [] => True | d :: _ => (a < c → a < d ∧ d < c) ∧ (c < a → c < d ∧ d < a)) ∧ Nest (c :: r)
  | _ => True
theorem nest_snoc {a c d : Int} : ∀ (ini : List Int), Nest (ini ++ [a, c]) → ((a < c → a < d ∧ d < c) ∧ (c < a → c < d ∧ d < a)) → Nest (ini ++ [a, c, d])
  | [], h, k => by
    have hne : a ≠ c := h.1
    have hcd : c ≠ d := by
      rcases Int.lt_or_gt_of_ne hne with z | z
      · have := k.1 z
        omega
      · have := k.2 z
        omega
    exact ⟨hne, k, ⟨hcd, trivial, trivial⟩⟩
  | [x], h, k => by
    have hne : a ≠ c := h.2.2.1
    exact ⟨h.1, h.2.1, nest_snoc [] h.2.2 k⟩
  | x :: y :: ini, h, k => ⟨h.1, by cases ini <;> exact h.2.1, nest_snoc (y :: ini) h.2.2 k⟩
def sbtw (a c p : Int) : Prop := (a < p ∧ p < c) ∨ (c < p ∧ p < a)
theorem Gen.nest {row S : List Int} {c : Int} {t : Nat} {b : Bool} (h : Gen row S c t b) : ∃ ini a, S = ini ++ [a, c] ∧ Nest S ∧ (b = true ↔ a < c) ∧ ∀ p ∈ row.drop (t + 1), sbtw a c p := by
  induction h with
  | @up m M tm tM h1 h2 h3 h4 h5 =>
    have hm := h3 M (List.mem_of_getElem? h2.1)
    refine ⟨[], m, rfl, ⟨h4, trivial, trivial⟩, ⟨fun _ => by omega, fun _ => rfl⟩, fun p hp => ?_⟩
    obtain ⟨k, hk, e⟩ := mem_drop_iff.mp hp
    have q := h3 p (List.mem_of_getElem? e)
    have n1 : p ≠ M := fun z => h2.2 k (by omega) (z ▸ e)
    have n2 : p ≠ m := fun z => h1.2 k (by omega) (z ▸ e)
    exact .inl ⟨by omega, by omega⟩
  | @down m M tm tM h1 h2 h3 h4 h5 =>
    have hm := h3 M (List.mem_of_getElem? h2.1)
    refine ⟨[], M, rfl, ⟨Ne.symm h4, trivial, trivial⟩, ⟨fun z => (Bool.noConfusion z), fun z => by omega⟩, fun p hp => ?_⟩
    obtain ⟨k, hk, e⟩ := mem_drop_iff.mp hp
    have q := h3 p (List.mem_of_getElem? e)
    have n1 : p ≠ M := fun z => h2.2 k (by omega) (z ▸ e)
    have n2 : p ≠ m := fun z => h1.2 k (by omega) (z ▸ e)
    exact .inr ⟨by omega, by omega⟩
  | @next S c d t u b g h1 h2 h3 ih =>
    obtain ⟨ini, a, e, hN, hb, hs⟩ := ih
    have hd := hs d h1
    obtain ⟨htu, T2⟩ := told_next g.told h1 h2 h3
    refine ⟨ini ++ [a], c, by rw [e]; simp, ?_, ?_, fun p hp => ?_⟩
    · rw [e]
      rw [e] at hN
      rw [List.append_assoc]
      exact nest_snoc ini hN ⟨fun z => by rcases hd with q | q <;> omega, fun z => by rcases hd with q | q <;> omega⟩
    · cases b with
      | true =>
        have := hb.mp rfl
        exact ⟨fun z => (Bool.noConfusion z), fun z => by rcases hd with q | q <;> omega⟩
      | false =>
        have : ¬ a < c := fun z => by have := hb.mpr z; cases this
        exact ⟨fun _ => by rcases hd with q | q <;> omega, fun _ => rfl⟩
    · obtain ⟨k, hk, e2⟩ := mem_drop_iff.mp hp
      have q1 := hs p (mem_drop_iff.mpr ⟨k, by omega, e2⟩)
      have q2 := T2.side p hp
      cases b with
      | true =>
        have := hb.mp rfl
        simp at q2
        exact .inr ⟨q2, by rcases q1 with q | q <;> omega⟩
      | false =>
        have : ¬ a < c := fun z => by have := hb.mpr z; cases this
        simp at q2
        exact .inl ⟨by rcases q1 with q | q <;> omega, q2⟩
/-- a row that is led by standing places -/
structure Other (O S : List Int) : Prop where
  rng : ∀ a c, S[0]? = some a → S[1]? = some c → ∀ p ∈ O, btw a c p
  mark : ∀ j c, S[j]? = some c → ∃ P R, O = P ++ c :: R ∧ (∀ d, S[j + 1]? = some d → d ∈ R ∧ ∀ p ∈ R, btw c d p) ∧ (S[j + 1]? = none → R = [])
/-! ### wheels -/
def cl (l u y : Int) : Int := if y < l then l else if u < y then u else y
/-! ### growing a row that is led by standing places -/
structure Grow (O S : List Int) (n : Nat) : Prop where
  rng : ∀ a c, S[0]? = some a → S[1]? = some c → ∀ p ∈ O, btw a c p
  mark : ∀ j c, j < n → S[j]? = some c → ∃ P R, O = P ++ c :: R ∧ (∀ d, S[j + 1]? = some d → (j + 1 < n → d ∈ R) ∧ ∀ p ∈ R, btw c d p) ∧ (j + 1 = n → R = [])
end M

set_option Elab.async false
set_option linter.all false
namespace M
/-! ### standing places as a function; two lists of standing places that all switches take alike are one -/
theorem nest_all : ∀ (r : List Int) (b c : Int), Nest (b :: c :: r) → ∀ p ∈ r, sbtw b c p
  | [], b, c, _, p, hp => by simp at hp
  | d :: r, b, c, h, p, hp => by
    have hd : sbtw b c d := by
      have k := h.2.1
      rcases Int.lt_or_gt_of_ne h.1 with q | q
      · exact .inl (k.1 q)
      · exact .inr (k.2 q)
    rcases List.mem_cons.mp hp with z | z
    · rw [z]; exact hd
    · have := nest_all r c d h.2.2 p z
      rcases this with y | y <;> rcases hd with x | x
      · exact .inr ⟨by omega, by omega⟩
      · exact .inr ⟨by omega, by omega⟩
      · exact .inl ⟨by omega, by omega⟩
      · exact .inl ⟨by omega, by omega⟩
theorem swf_on {lo hi c : Int} (h : hi ≤ c) (x : Bool) : swf lo hi c x = true := by unfold swf; rw [if_pos h]
theorem swf_off {lo hi c : Int} (h1 : c < hi) (h2 : c ≤ lo) (x : Bool) : swf lo hi c x = false := by unfold swf; rw [if_neg (by omega), if_pos h2]
theorem swf_stay {lo hi c : Int} (h1 : c < hi) (h2 : lo < c) (x : Bool) : swf lo hi c x = x := by unfold swf; rw [if_neg (by omega), if_neg (by omega)]
theorem sep_core : ∀ (n : Nat) (a b : Int) (r1 r2 : List Int), r1.length + r2.length ≤ n → Nest (a :: b :: r1) → Nest (a :: b :: r2) →
    (∀ lo hi, lo < hi → min a b ≤ lo → hi ≤ max a b → fo (swf lo hi) (decide (a < b)) r1 = fo (swf lo hi) (decide (a < b)) r2) → r1 = r2 := by
  intro n
  induction n with
  | zero =>
    intro a b r1 r2 hl _ _ _
    cases r1 with
    | nil =>
      cases r2 with
      | nil => rfl
      | cons _ _ => simp at hl
    | cons _ _ => simp at hl
  | succ n ih =>
    have empty : ∀ (a b c : Int) (r : List Int), Nest (a :: b :: c :: r) → (∀ lo hi, lo < hi → min a b ≤ lo → hi ≤ max a b → decide (a < b) = fo (swf lo hi) (decide (a < b)) (c :: r)) → False := by
      intro a b c r hN h
      have hc := nest_all _ a b hN c List.mem_cons_self
      have hr := nest_all _ b c hN.2.2
      rcases Int.lt_or_gt_of_ne hN.1 with q | q
      · have hcb : c < b ∧ a < c := by rcases hc with z | z <;> omega
        have k := h c b (by omega) (by omega) (by omega)
        rw [fo_cons, swf_off (by omega) (Int.le_refl _), sw_off r (fun p hp => by rcases hr p hp with z | z <;> omega), decide_eq_true q] at k
        cases k
      · have hcb : b < c ∧ c < a := by rcases hc with z | z <;> omega
        have k := h b c (by omega) (by omega) (by omega)
        rw [fo_cons, swf_on (Int.le_refl _), sw_on r (fun p hp => by rcases hr p hp with z | z <;> omega), decide_eq_false (by omega)] at k
        cases k
    have apart : ∀ (a b c1 c2 : Int) (r1 r2 : List Int), Nest (a :: b :: c1 :: r1) → Nest (a :: b :: c2 :: r2) → c1 < c2 → (∀ lo hi, lo < hi → min a b ≤ lo → hi ≤ max a b → fo (swf lo hi) (decide (a < b)) (c1 :: r1) = fo (swf lo hi) (decide (a < b)) (c2 :: r2)) → False := by
      intro a b c1 c2 r1 r2 h1 h2 hlt h
      have hc1 := nest_all _ a b h1 c1 List.mem_cons_self
      have hc2 := nest_all _ a b h2 c2 List.mem_cons_self
      have hr1 := nest_all _ b c1 h1.2.2
      have hr2 := nest_all _ b c2 h2.2.2
      rcases Int.lt_or_gt_of_ne h1.1 with q | q
      · have u1 : a < c1 ∧ c1 < b := by rcases hc1 with z | z <;> omega
        have u2 : a < c2 ∧ c2 < b := by rcases hc2 with z | z <;> omega
        have k := h c1 b (by rcases hc1 with z | z <;> omega) (by rcases hc1 with z | z <;> omega) (by omega)
        rw [fo_cons, fo_cons, swf_off (by rcases hc1 with z | z <;> omega) (Int.le_refl _), sw_off r1 (fun p hp => by rcases hr1 p hp with z | z <;> omega), decide_eq_true q, swf_stay (by rcases hc2 with z | z <;> omega) hlt, sw_on r2 (fun p hp => by rcases hr2 p hp with z | z <;> omega)] at k
        cases k
      · have u1 : b < c1 ∧ c1 < a := by rcases hc1 with z | z <;> omega
        have u2 : b < c2 ∧ c2 < a := by rcases hc2 with z | z <;> omega
        have k := h b c2 (by rcases hc2 with z | z <;> omega) (by omega) (by rcases hc2 with z | z <;> omega)
        rw [fo_cons, fo_cons, swf_stay hlt (by rcases hc1 with z | z <;> omega), decide_eq_false (by omega), sw_off r1 (fun p hp => by rcases hr1 p hp with z | z <;> omega), swf_on (Int.le_refl _), sw_on r2 (fun p hp => by rcases hr2 p hp with z | z <;> omega)] at k
        cases k
    intro a b r1 r2 hl h1 h2 h
    cases r1 with
    | nil =>
      cases r2 with
      | nil => rfl
      | cons c r => exact (empty a b c r h2 (fun lo hi x y z => h lo hi x y z)).elim
    | cons c1 r1 =>
      cases r2 with
      | nil => exact (empty a b c1 r1 h1 (fun lo hi x y z => (h lo hi x y z).symm)).elim
      | cons c2 r2 =>
        rcases Int.lt_trichotomy c1 c2 with z | z | z
        · exact (apart a b c1 c2 r1 r2 h1 h2 z h).elim
        · subst z
          have hc1 := nest_all _ a b h1 c1 List.mem_cons_self
          refine congrArg (c1 :: ·) (ih b c1 r1 r2 (by simp at hl; omega) h1.2.2 h2.2.2 fun lo hi x y z => ?_)
          have k := h lo hi x (by rcases hc1 with w | w <;> omega) (by rcases hc1 with w | w <;> omega)
          rw [fo_cons, fo_cons] at k
          have e : swf lo hi c1 (decide (a < b)) = decide (b < c1) := by
            rcases Int.lt_or_gt_of_ne h1.1 with q | q
            · rw [decide_eq_false (show ¬ b < c1 by rcases hc1 with w | w <;> omega)]
              exact swf_off (by rcases hc1 with w | w <;> omega) (by rcases hc1 with w | w <;> omega) _
            · rw [decide_eq_true (show b < c1 by rcases hc1 with w | w <;> omega)]
              exact swf_on (by rcases hc1 with w | w <;> omega) _
          rw [e] at k
          exact k
        · exact (apart a b c2 c1 r2 r1 h2 h1 z (fun lo hi x y z => (h lo hi x y z).symm)).elim
/-- all switches take both alike -/
def Agree (r1 r2 : List Int) : Prop := ∀ lo hi, lo < hi → ∀ x, fo (swf lo hi) x r1 = fo (swf lo hi) x r2
theorem nest_bounds : ∀ (S : List Int), Nest S → S ≠ [] → ∃ m M, m ∈ S ∧ M ∈ S ∧ (∀ p ∈ S, m ≤ p ∧ p ≤ M) ∧ ((S = [m] ∧ m = M) ∨ (∃ r, S = m :: M :: r ∧ m < M) ∨ (∃ r, S = M :: m :: r ∧ m < M))
  | [], _, h => absurd rfl h
  | [a], _, _ => ⟨a, a, by simp, by simp, by simp, .inl ⟨rfl, rfl⟩⟩
  | a :: b :: r, h, _ => by
    have hr := nest_all r a b h
    rcases Int.lt_or_gt_of_ne h.1 with q | q
    · refine ⟨a, b, by simp, by simp, fun p hp => ?_, .inr (.inl ⟨r, rfl, q⟩)⟩
      rcases List.mem_cons.mp hp with z | z
      · omega
      · rcases List.mem_cons.mp z with z | z
        · omega
        · rcases hr p z with y | y <;> omega
    · refine ⟨b, a, by simp, by simp, fun p hp => ?_, .inr (.inr ⟨r, rfl, q⟩)⟩
      rcases List.mem_cons.mp hp with z | z
      · omega
      · rcases List.mem_cons.mp z with z | z
        · omega
        · rcases hr p z with y | y <;> omega
theorem fo_hit_on {lo hi : Int} : ∀ (L : List Int) (x : Bool), (∀ p ∈ L, lo < p) → (∃ p ∈ L, hi ≤ p) → fo (swf lo hi) x L = true
  | [], _, _, ⟨p, hp, _⟩ => by simp at hp
  | c :: L, x, h, ⟨p, hp, hh⟩ => by
    rw [fo_cons]
    by_cases g : hi ≤ c
    · rw [swf_on g]; exact sw_on L fun q hq => h q (List.mem_cons_of_mem _ hq)
    · refine fo_hit_on L _ (fun q hq => h q (List.mem_cons_of_mem _ hq)) ?_
      rcases List.mem_cons.mp hp with z | z
      · exact absurd (z ▸ hh) g
      · exact ⟨p, z, hh⟩
theorem fo_hit_off {lo hi : Int} : ∀ (L : List Int) (x : Bool), (∀ p ∈ L, p < hi) → (∃ p ∈ L, p ≤ lo) → fo (swf lo hi) x L = false
  | [], _, _, ⟨p, hp, _⟩ => by simp at hp
  | c :: L, x, h, ⟨p, hp, hh⟩ => by
    rw [fo_cons]
    by_cases g : c ≤ lo
    · rw [swf_off (h c List.mem_cons_self) g]; exact sw_off L fun q hq => h q (List.mem_cons_of_mem _ hq)
    · refine fo_hit_off L _ (fun q hq => h q (List.mem_cons_of_mem _ hq)) ?_
      rcases List.mem_cons.mp hp with z | z
      · exact absurd (z ▸ hh) g
      · exact ⟨p, z, hh⟩
theorem Agree.symm {r1 r2 : List Int} (h : Agree r1 r2) : Agree r2 r1 := fun lo hi x y => (h lo hi x y).symm
theorem sep_ends {S1 S2 : List Int} {m1 M1 m2 M2 : Int} (b1 : ∀ p ∈ S1, m1 ≤ p ∧ p ≤ M1) (i2 : m2 ∈ S2) (j2 : M2 ∈ S2) (b2 : ∀ p ∈ S2, m2 ≤ p ∧ p ≤ M2) (h : Agree S1 S2) : M2 ≤ M1 ∧ m1 ≤ m2 := by
  have hm := b2 M2 j2
  constructor
  · rcases (show M1 < M2 ∨ M2 ≤ M1 by omega) with z | z
    · exfalso
      have k := h (min m1 m2 - 1) M2 (by omega) false
      rw [fo_hit_on S2 false (fun p hp => by have := b2 p hp; omega) ⟨M2, j2, Int.le_refl _⟩, sw_off S1 (fun p hp => by have := b1 p hp; omega)] at k
      cases k
    · exact z
  · rcases (show m2 < m1 ∨ m1 ≤ m2 by omega) with z | z
    · exfalso
      have k := h m2 (max M1 M2 + 1) (by omega) true
      rw [fo_hit_off S2 true (fun p hp => by have := b2 p hp; omega) ⟨m2, i2, Int.le_refl _⟩, sw_on S1 (fun p hp => by have := b1 p hp; omega)] at k
      cases k
    · exact z
theorem sep {S1 S2 : List Int} (h1 : Nest S1) (h2 : Nest S2) (h : Agree S1 S2) : S1 = S2 := by
  have none_ : ∀ S : List Int, Nest S → Agree [] S → S = [] := by
    intro S hN h
    by_cases e : S = []
    · exact e
    · exfalso
      obtain ⟨m, M, im, iM, b, _⟩ := nest_bounds S hN e
      have k := h (m - 1) M (by have := b m im; omega) false
      rw [fo_hit_on S false (fun p hp => by have := b p hp; omega) ⟨M, iM, Int.le_refl _⟩] at k
      cases k
  by_cases e1 : S1 = []
  · subst e1; exact (none_ S2 h2 h).symm
  by_cases e2 : S2 = []
  · subst e2; exact none_ S1 h1 h.symm
  obtain ⟨m1, M1, i1, j1, b1, c1⟩ := nest_bounds S1 h1 e1
  obtain ⟨m2, M2, i2, j2, b2, c2⟩ := nest_bounds S2 h2 e2
  obtain ⟨q1, q2⟩ := sep_ends b1 i2 j2 b2 h
  obtain ⟨q3, q4⟩ := sep_ends b2 i1 j1 b1 h.symm
  have eM : M1 = M2 := by omega
  have em : m1 = m2 := by omega
  subst eM em
  have opp : ∀ (r r' : List Int), Nest (m1 :: M1 :: r) → Nest (M1 :: m1 :: r') → m1 < M1 → Agree (m1 :: M1 :: r) (M1 :: m1 :: r') → False := by
    intro r r' n1 n2 hlt hA
    have k := hA m1 M1 hlt true
    have x1 := nest_all r m1 M1 n1
    have x2 := nest_all r' M1 m1 n2
    rw [fo_cons, fo_cons, fo_cons, fo_cons, swf_on (Int.le_refl M1), swf_off hlt (Int.le_refl m1), sw_on r (fun p hp => by rcases x1 p hp with z | z <;> omega), sw_off r' (fun p hp => by rcases x2 p hp with z | z <;> omega)] at k
    cases k
  rcases c1 with ⟨s1, g1⟩ | ⟨r1, s1, g1⟩ | ⟨r1, s1, g1⟩ <;> rcases c2 with ⟨s2, g2⟩ | ⟨r2, s2, g2⟩ | ⟨r2, s2, g2⟩
  · rw [s1, s2]
  · omega
  · omega
  · omega
  · subst s1 s2
    refine congrArg (fun r => m1 :: M1 :: r) (sep_core _ m1 M1 r1 r2 (Nat.le_refl _) h1 h2 fun lo hi x y z => ?_)
    have k := h lo hi x true
    rw [fo_cons, fo_cons, fo_cons, fo_cons, swf_on (show hi ≤ M1 by omega)] at k
    rw [decide_eq_true g1]
    exact k
  · subst s1 s2
    exact (opp r1 r2 h1 h2 g1 h).elim
  · omega
  · subst s1 s2
    exact (opp r2 r1 h2 h1 g1 h.symm).elim
  · subst s1 s2
    refine congrArg (fun r => M1 :: m1 :: r) (sep_core _ M1 m1 r1 r2 (Nat.le_refl _) h1 h2 fun lo hi x y z => ?_)
    have k := h lo hi x true
    rw [fo_cons, fo_cons, fo_cons, fo_cons, swf_off (show m1 < hi by omega) (show m1 ≤ lo by omega)] at k
    rw [decide_eq_false (show ¬ M1 < m1 by omega)]
    exact k
/-! ### standing places -/
def Stands (row S : List Int) : Prop := (S = turn (moves row) ∧ S.length < 2) ∨ ∃ c t b, Gen row S c t b ∧ row.length ≤ t + 1
theorem nest_short : ∀ (S : List Int), S.length < 2 → Nest S
  | [], _ => trivial
  | [_], _ => trivial
  | _ :: _ :: _, h => by simp at h; omega
theorem Stands.nest {row S : List Int} (h : Stands row S) : Nest S := by
  rcases h with ⟨_, hl⟩ | ⟨c, t, b, g, _⟩
  · exact nest_short S hl
  · obtain ⟨_, _, _, hN, _⟩ := g.nest; exact hN
theorem Stands.std {row S : List Int} (h : Stands row S) : StdOf row S := by
  rcases h with ⟨e, hl⟩ | ⟨c, t, b, g, ht⟩
  · subst e; exact (std_short hl).1
  · intro σ f hf x
    have := g.told.fold σ f hf x
    rw [List.take_of_length_le ht] at this
    exact this
theorem StdOf.agree {row S : List Int} (h : StdOf row S) : Agree row S := fun lo hi hlt x => h Bool (swf lo hi) (sw_sys hlt) x
theorem min_ex : ∀ (L : List Int), L ≠ [] → ∃ m ∈ L, ∀ p ∈ L, m ≤ p
  | [], h => absurd rfl h
  | [a], _ => ⟨a, by simp, by simp⟩
  | a :: b :: L, _ => by
    obtain ⟨m, h1, h2⟩ := min_ex (b :: L) (by simp)
    by_cases g : a ≤ m
    · exact ⟨a, by simp, fun p hp => by rcases List.mem_cons.mp hp with z | z; omega; have := h2 p z; omega⟩
    · exact ⟨m, List.mem_cons_of_mem _ h1, fun p hp => by rcases List.mem_cons.mp hp with z | z; omega; exact h2 p z⟩
theorem max_ex : ∀ (L : List Int), L ≠ [] → ∃ m ∈ L, ∀ p ∈ L, p ≤ m
  | [], h => absurd rfl h
  | [a], _ => ⟨a, by simp, by simp⟩
  | a :: b :: L, _ => by
    obtain ⟨m, h1, h2⟩ := max_ex (b :: L) (by simp)
    by_cases g : m ≤ a
    · exact ⟨a, by simp, fun p hp => by rcases List.mem_cons.mp hp with z | z; omega; have := h2 p z; omega⟩
    · exact ⟨m, List.mem_cons_of_mem _ h1, fun p hp => by rcases List.mem_cons.mp hp with z | z; omega; exact h2 p z⟩
theorem last_ex : ∀ (L : List Int) (c : Int), c ∈ L → ∃ t, LastT L c t
  | [], c, h => by simp at h
  | a :: L, c, h => by
    by_cases g : c ∈ L
    · obtain ⟨t, h1, h2⟩ := last_ex L c g
      refine ⟨t + 1, by simpa using h1, fun k hk => ?_⟩
      cases k with
      | zero => omega
      | succ k => simpa using h2 k (by omega)
    · refine ⟨0, by rcases List.mem_cons.mp h with z | z; simp [z]; exact absurd z g, fun k hk => ?_⟩
      cases k with
      | zero => omega
      | succ k =>
        intro z
        exact g (List.mem_of_getElem? (by simpa using z))
theorem gen_ends {row : List Int} : ∀ (n : Nat) {S : List Int} {c : Int} {t : Nat} {b : Bool}, row.length - t ≤ n → Gen row S c t b → ∃ S' c' t' b', Gen row S' c' t' b' ∧ row.length ≤ t' + 1 := by
  intro n
  induction n with
  | zero => intro S c t b hn g; exact ⟨S, c, t, b, g, by omega⟩
  | succ n ih =>
    intro S c t b hn g
    by_cases e : row.length ≤ t + 1
    · exact ⟨S, c, t, b, g, e⟩
    · have hne : row.drop (t + 1) ≠ [] := fun z => by have := congrArg List.length z; simp at this; omega
      cases b with
      | true =>
        obtain ⟨d, hd, hm⟩ := min_ex _ hne
        obtain ⟨u, hu⟩ := last_ex row d (List.mem_of_mem_drop hd)
        have hx : ∀ p ∈ row.drop (t + 1), if true then d ≤ p else p ≤ d := fun p hp => by simpa using hm p hp
        have htu := (told_next g.told hd hu hx).1
        exact ih (by omega) (Gen.next g hd hu hx)
      | false =>
        obtain ⟨d, hd, hm⟩ := max_ex _ hne
        obtain ⟨u, hu⟩ := last_ex row d (List.mem_of_mem_drop hd)
        have hx : ∀ p ∈ row.drop (t + 1), if false then d ≤ p else p ≤ d := fun p hp => by simpa using hm p hp
        have htu := (told_next g.told hd hu hx).1
        exact ih (by omega) (Gen.next g hd hu hx)
theorem stands_ex (row : List Int) : ∃ S, Stands row S := by
  by_cases h : (turn (moves row)).length < 2
  · exact ⟨_, .inl ⟨rfl, h⟩⟩
  · obtain ⟨p, hp, q, hq, hne⟩ := turn_long h
    have hne' : row ≠ [] := fun z => by rw [z] at hp; simp at hp
    obtain ⟨m, hm, bm⟩ := min_ex row hne'
    obtain ⟨M, hM, bM⟩ := max_ex row hne'
    obtain ⟨tm, lm⟩ := last_ex row m hm
    obtain ⟨tM, lM⟩ := last_ex row M hM
    have hmM : m ≠ M := fun z => by
      have a1 := bm p hp
      have a2 := bM p hp
      have a3 := bm q hq
      have a4 := bM q hq
      omega
    have hb : ∀ p ∈ row, m ≤ p ∧ p ≤ M := fun p hp => ⟨bm p hp, bM p hp⟩
    by_cases g : tm < tM
    · obtain ⟨S, c, t, b, h1, h2⟩ := gen_ends _ (Nat.le_refl _) (Gen.up lm lM hb hmM g)
      exact ⟨S, .inr ⟨c, t, b, h1, h2⟩⟩
    · obtain ⟨S, c, t, b, h1, h2⟩ := gen_ends _ (Nat.le_refl _) (Gen.down lm lM hb hmM g)
      exact ⟨S, .inr ⟨c, t, b, h1, h2⟩⟩
noncomputable def std (row : List Int) : List Int := Classical.choose (stands_ex row)
theorem std_stands (row : List Int) : Stands row (std row) := Classical.choose_spec (stands_ex row)
theorem Agree.trans {a b c : List Int} (h1 : Agree a b) (h2 : Agree b c) : Agree a c := fun lo hi x y => (h1 lo hi x y).trans (h2 lo hi x y)
theorem std_is {row S : List Int} (h : Stands row S) : S = std row :=
  sep h.nest (std_stands row).nest (h.std.agree.symm.trans (std_stands row).std.agree)
theorem Stands.facts {row S : List Int} (h : Stands row S) : (∀ p ∈ S, p ∈ row) ∧ S.length ≤ row.length ∧ S.getLast? = row.getLast? := by
  rcases h with ⟨e, hl⟩ | ⟨c, t, b, g, ht⟩
  · subst e
    obtain ⟨_, q2, q3, q4⟩ := std_short hl
    exact ⟨q3, q4, q2⟩
  · have hT := g.told
    have htl : t < row.length := (List.getElem?_eq_some_iff.mp hT.lt.1).1
    obtain ⟨ini, hini⟩ := hT.en
    refine ⟨hT.sub, by have := hT.len; omega, ?_⟩
    have e : row.getLast? = some c := by rw [List.getLast?_eq_getElem?, show row.length - 1 = t by omega, hT.lt.1]
    rw [hini, List.getLast?_append, e]
    rfl
theorem std_len (row : List Int) : (std row).length ≤ row.length := (std_stands row).facts.2.1
theorem std_nested (row : List Int) : Nest (std row) := (std_stands row).nest
end M

set_option Elab.async false
set_option linter.all false
set_option maxHeartbeats 2000000
namespace M
/-! ### how far a wheel goes along a row; swings taken out -/
def gw (d a : Int) (row : List Int) : Int := way a (hung d a row)
theorem gw_cons (d a p : Int) (r : List Int) : gw d a (p :: r) = ab (drag d p a - a) + gw d (drag d p a) r := rfl
theorem drag_in {d p a : Int} (hd : 0 ≤ d) : p - d ≤ drag d p a ∧ drag d p a ≤ p + d := by unfold drag; omega
/-- a place on the way between two others counts for nothing -/
theorem gw_btw {d a x y z : Int} {r : List Int} (hd : 0 ≤ d) (h1 : x - d ≤ a) (h2 : a ≤ x + d) (h : (x ≤ y ∧ y ≤ z) ∨ (z ≤ y ∧ y ≤ x)) : gw d a (y :: z :: r) = gw d a (z :: r) := by
  rw [gw_cons, gw_cons, gw_cons]
  have e : drag d z (drag d y a) = drag d z a := by unfold drag; omega
  rw [e]
  have : ab (drag d y a - a) + ab (drag d z a - drag d y a) = ab (drag d z a - a) := by unfold ab drag; omega
  omega
theorem gw_swing {d a p1 p2 p3 p4 : Int} {r : List Int} (hd : 0 ≤ d) (h1 : p1 - d ≤ a) (h2 : a ≤ p1 + d) (h : (p1 ≤ p3 ∧ p3 ≤ p2 ∧ p2 ≤ p4) ∨ (p4 ≤ p2 ∧ p2 ≤ p3 ∧ p3 ≤ p1)) :
    gw d a (p2 :: p3 :: p4 :: r) = gw d a (p4 :: r) + 2 * max 0 (max p2 p3 - min p2 p3 - 2 * d) := by
  rw [gw_cons, gw_cons, gw_cons, gw_cons]
  have e : drag d p4 (drag d p3 (drag d p2 a)) = drag d p4 a := by unfold drag; omega
  rw [e]
  have : ab (drag d p2 a - a) + ab (drag d p3 (drag d p2 a) - drag d p2 a) + ab (drag d p4 a - drag d p3 (drag d p2 a)) = ab (drag d p4 a - a) + 2 * max 0 (max p2 p3 - min p2 p3 - 2 * d) := by
    unfold ab drag; omega
  omega
theorem gw_out {d p1 p2 p3 p4 : Int} {r : List Int} (hd : 0 ≤ d) (h : (p1 ≤ p3 ∧ p3 ≤ p2 ∧ p2 ≤ p4) ∨ (p4 ≤ p2 ∧ p2 ≤ p3 ∧ p3 ≤ p1)) :
    ∀ (A : List Int) (a : Int), gw d a (A ++ p1 :: p2 :: p3 :: p4 :: r) = gw d a (A ++ p1 :: p4 :: r) + 2 * max 0 (max p2 p3 - min p2 p3 - 2 * d)
  | [], a => by
    have q := drag_in (p := p1) (a := a) hd
    rw [List.nil_append, List.nil_append, gw_cons, gw_cons d a p1 (p4 :: r), gw_swing hd q.1 q.2 h]
    omega
  | x :: A, a => by
    rw [List.cons_append, List.cons_append, gw_cons, gw_cons, gw_out hd h A]
    omega
theorem gw_mv {d : Int} (hd : 0 ≤ d) : ∀ (r : List Int) (a l : Int), l - d ≤ a → a ≤ l + d → gw d a (mvFrom l r) = gw d a r
  | [], _, _, _, _ => rfl
  | x :: r, a, l, h1, h2 => by
    simp only [mvFrom]
    split
    · rename_i e
      subst e
      rw [gw_mv hd r a x h1 h2, gw_cons]
      have e : drag d x a = a := by unfold drag; omega
      rw [e]
      have : ab (a - a) = 0 := by unfold ab; omega
      omega
    · have q := drag_in (p := x) (a := a) hd
      rw [gw_cons, gw_cons, gw_mv hd r _ x q.1 q.2]
theorem gw_tn {d : Int} (hd : 0 ≤ d) : ∀ (r : List Int) (a x y : Int), y ≠ x → ch y r → x - d ≤ a → a ≤ x + d → gw d a (tn x y r) = gw d a (y :: r)
  | [], _, _, _, _, _, _, _ => rfl
  | c :: r, a, x, y, hne, hc, h1, h2 => by
    have q := drag_in (p := y) (a := a) hd
    have ih := gw_tn hd r (drag d y a) y c hc.1 hc.2 q.1 q.2
    simp only [tn]
    split
    · rw [gw_cons, ih, gw_cons d a y]
    · rename_i hn
      obtain ⟨z, zs, e, a1, a2, _⟩ := tn_spec r y c hc.1 hc.2
      rw [gw_cons d a y, ← ih, ← gw_cons, e]
      have hz := hc.1
      refine (gw_btw hd h1 h2 ?_).symm
      by_cases g1 : x < y <;> by_cases g2 : c < y <;> simp [g1, g2] at hn <;> omega
theorem gw_turn {d : Int} (hd : 0 ≤ d) (row : List Int) (a : Int) : gw d a (turn (moves row)) = gw d a row := by
  cases row with
  | nil => rfl
  | cons x r =>
    have q := drag_in (p := x) (a := a) hd
    show gw d a (x :: tl x (mvFrom x r)) = _
    rw [gw_cons, gw_cons, ← gw_mv hd r _ x q.1 q.2]
    have hc := ch_mv r x
    cases e : mvFrom x r with
    | nil => rfl
    | cons c m =>
      rw [e] at hc
      rw [show tl x (c :: m) = tn x c m from rfl, gw_tn hd m _ x c hc.1 hc.2 q.1 q.2]
/-! ### by turns -/
theorem altL_cons {a b : Int} {r : List Int} (hne : b ≠ a) (h : altL (b :: r)) (ht : ∀ c r', r = c :: r' → (a < b ↔ c < b)) : altL (a :: b :: r) := by
  refine ⟨hne, ?_⟩
  cases r with
  | nil => cases decide (a < b) <;> trivial
  | cons c r =>
    have hq := ht c r rfl
    obtain ⟨h1, h2⟩ := h
    by_cases g : a < b
    · rw [decide_eq_true g]
      have := hq.mp g
      rw [decide_eq_false (show ¬ b < c by omega)] at h2
      exact ⟨this, h2⟩
    · rw [decide_eq_false g]
      have : ¬ c < b := fun z => g (hq.mpr z)
      rw [decide_eq_true (show b < c by omega)] at h2
      exact ⟨by omega, h2⟩
theorem altL_three {a b c : Int} {r : List Int} (h : altL (a :: b :: c :: r)) : b ≠ a ∧ c ≠ b ∧ (a < b ↔ c < b) := by
  have q := alts_step h.2
  have hne := h.1
  by_cases e : a < b
  · rw [decide_eq_true e] at q
    have := q.1 rfl
    omega
  · rw [decide_eq_false e] at q
    have := q.2.1 rfl
    omega
theorem alt_app : ∀ (A : List Int) {B : List Int}, altL (A ++ B) → altL B
  | [], _, h => h
  | _ :: A, _, h => alt_app A (altL_tail h)
/-- a swing taken out leaves the rest by turns -/
theorem alt_out {p1 p2 p3 p4 : Int} {r : List Int} (h : (p1 ≤ p3 ∧ p3 < p2 ∧ p2 ≤ p4) ∨ (p4 ≤ p2 ∧ p2 < p3 ∧ p3 ≤ p1)) :
    ∀ (A : List Int), altL (A ++ p1 :: p2 :: p3 :: p4 :: r) → altL (A ++ p1 :: p4 :: r)
  | [], ha => by
    rw [List.nil_append] at ha ⊢
    have a2 := altL_tail ha
    have a3 := altL_tail a2
    have a4 := altL_tail a3
    have t1 := altL_three ha
    have t2 := altL_three a2
    refine altL_cons (by omega) a4 fun c r' e => ?_
    subst e
    have t3 := altL_three a3
    omega
  | [x], ha => by
    have ih := alt_out h [] (altL_tail ha)
    rw [List.nil_append] at ih
    have t := altL_three (show altL (x :: p1 :: p2 :: p3 :: p4 :: r) from ha)
    refine altL_cons t.1 ih fun c r' e => ?_
    cases e
    omega
  | x :: y :: A, ha => by
    have ih := alt_out h (y :: A) (altL_tail ha)
    refine altL_cons (r := A ++ p1 :: p4 :: r) ?_ ih fun c r' e => ?_
    · exact ha.1
    · cases A with
      | nil => cases e; exact (altL_three (show altL (x :: y :: p1 :: p2 :: p3 :: p4 :: r) from ha)).2.2
      | cons z A => cases e; exact (altL_three (show altL (x :: y :: c :: (A ++ p1 :: p2 :: p3 :: p4 :: r)) from ha)).2.2
/-- the topmost four of a pile that turns by turns -/
theorem four_up {p1 p2 p3 p4 : Int} {A r : List Int} (ha : altL (A ++ p1 :: p2 :: p3 :: p4 :: r)) (h1 : ab (p3 - p2) ≤ ab (p2 - p1)) (h2 : ab (p3 - p2) ≤ ab (p4 - p3)) :
    (p1 ≤ p3 ∧ p3 < p2 ∧ p2 ≤ p4) ∨ (p4 ≤ p2 ∧ p2 < p3 ∧ p3 ≤ p1) := by
  have q := alt_app A ha
  have t1 := altL_three q
  have t2 := altL_three (altL_tail q)
  unfold ab at h1 h2
  omega
/-- what swings come to at a depth -/
def sws (d : Int) (ps : List (Int × Int)) : Int := (ps.map fun p => max 0 (p.2 - p.1 - 2 * d)).sum
theorem sws_snoc (d : Int) (ps : List (Int × Int)) (p : Int × Int) : sws d (ps ++ [p]) = sws d ps + max 0 (p.2 - p.1 - 2 * d) := by simp [sws]
/-- swings and what is left: as far as a wheel of any depth goes -/
def SwOk (row : List Int) (ps : List (Int × Int)) (lf : List Int) : Prop := ∀ d a, 0 ≤ d → gw d a row = gw d a lf + 2 * sws d ps
end M

set_option Elab.async false
set_option linter.all false
namespace M
/-! ### all moved by one number, or turned over -/
theorem drag_shb (p a x b : Int) : drag p (a + b) (x + b) = drag p a x + b := by unfold drag; omega
theorem drag_ovr (p a x : Int) (h : 0 ≤ p) : drag p (0 - a) (0 - x) = 0 - drag p a x := by unfold drag; omega
theorem dragAll_shb (b : Int) : ∀ (ps xs : List Int) (a : Int), dragAll ps (xs.map (· + b)) (a + b) = (dragAll ps xs a).map (· + b)
  | [], _, _ => by simp [dragAll]
  | _ :: _, [], _ => by simp [dragAll]
  | p :: ps, x :: xs, a => by
    simp only [List.map_cons, dragAll]
    rw [drag_shb, dragAll_shb b ps xs]
theorem dragAll_ovr : ∀ (ps xs : List Int) (a : Int), (∀ p ∈ ps, 0 ≤ p) → dragAll ps (xs.map (0 - ·)) (0 - a) = (dragAll ps xs a).map (0 - ·)
  | [], _, _, _ => by simp [dragAll]
  | _ :: _, [], _, _ => by simp [dragAll]
  | p :: ps, x :: xs, a, h => by
    simp only [List.map_cons, dragAll]
    rw [drag_ovr _ _ _ (h p List.mem_cons_self), dragAll_ovr ps xs _ fun q hq => h q (List.mem_cons_of_mem _ hq)]
theorem runs_sh (b : Int) (ps : List Int) : ∀ (row ws : List Int), runs ps (ws.map (· + b)) (row.map (· + b)) = (runs ps ws row).map fun R => R.map (· + b)
  | [], _ => rfl
  | c :: row, ws => by
    simp only [List.map_cons, runs]
    rw [dragAll_shb, runs_sh b ps row]
theorem runs_ov (ps : List Int) (h : ∀ p ∈ ps, 0 ≤ p) : ∀ (row ws : List Int), runs ps (ws.map (0 - ·)) (row.map (0 - ·)) = (runs ps ws row).map fun R => R.map (0 - ·)
  | [], _ => rfl
  | c :: row, ws => by
    simp only [List.map_cons, runs]
    rw [dragAll_ovr _ _ _ h, runs_ov ps h row]
theorem way_sh (b : Int) : ∀ (r : List Int) (h : Int), way (h + b) (r.map (· + b)) = way h r
  | [], _ => rfl
  | x :: r, h => by
    simp only [List.map_cons, way]
    rw [way_sh b r x, show x + b - (h + b) = x - h by omega]
theorem ab_neg (x : Int) : ab (-x) = ab x := by unfold ab; split <;> split <;> omega
theorem way_ov : ∀ (r : List Int) (h : Int), way (0 - h) (r.map (0 - ·)) = way h r
  | [], _ => rfl
  | x :: r, h => by
    simp only [List.map_cons, way]
    rw [way_ov r x, show 0 - x - (0 - h) = -(x - h) by omega, ab_neg]
theorem hung_sh (d b : Int) : ∀ (r : List Int) (x : Int), hung d (x + b) (r.map (· + b)) = (hung d x r).map (· + b)
  | [], _ => rfl
  | c :: r, x => by
    simp only [List.map_cons, hung]
    rw [drag_shb, hung_sh d b r]
theorem hung_ov (d : Int) (h : 0 ≤ d) : ∀ (r : List Int) (x : Int), hung d (0 - x) (r.map (0 - ·)) = (hung d x r).map (0 - ·)
  | [], _ => rfl
  | c :: r, x => by
    simp only [List.map_cons, hung]
    rw [drag_ovr _ _ _ h, hung_ov d h r]
theorem gw_sh (d b a : Int) (r : List Int) : gw d (a + b) (r.map (· + b)) = gw d a r := by unfold gw; rw [hung_sh, way_sh]
theorem gw_ov (d a : Int) (h : 0 ≤ d) (r : List Int) : gw d (0 - a) (r.map (0 - ·)) = gw d a r := by unfold gw; rw [hung_ov d h, way_ov]
theorem mv_sh (b : Int) : ∀ (r : List Int) (l : Int), mvFrom (l + b) (r.map (· + b)) = (mvFrom l r).map (· + b)
  | [], _ => rfl
  | x :: r, l => by
    simp only [List.map_cons, mvFrom]
    by_cases h : x = l
    · rw [if_pos (by omega), if_pos h, mv_sh b r]
    · rw [if_neg (by omega), if_neg h, mv_sh b r]; rfl
theorem mv_ov : ∀ (r : List Int) (l : Int), mvFrom (0 - l) (r.map (0 - ·)) = (mvFrom l r).map (0 - ·)
  | [], _ => rfl
  | x :: r, l => by
    simp only [List.map_cons, mvFrom]
    by_cases h : x = l
    · rw [if_pos (by omega), if_pos h, mv_ov r]
    · rw [if_neg (by omega), if_neg h, mv_ov r]; rfl
theorem tn_sh (k : Int) : ∀ (r : List Int) (a b : Int), tn (a + k) (b + k) (r.map (· + k)) = (tn a b r).map (· + k)
  | [], a, b => rfl
  | c :: r, a, b => by
    simp only [List.map_cons, tn]
    rw [show decide (a + k < b + k) = decide (a < b) from decide_eq_decide.mpr (by omega), show decide (c + k < b + k) = decide (c < b) from decide_eq_decide.mpr (by omega), tn_sh k r]
    split <;> rfl
theorem tn_ov : ∀ (r : List Int) (a b : Int), a ≠ b → ch b r → tn (0 - a) (0 - b) (r.map (0 - ·)) = (tn a b r).map (0 - ·)
  | [], a, b, _, _ => rfl
  | c :: r, a, b, hab, hc => by
    simp only [List.map_cons, tn]
    rw [tn_ov r b c (Ne.symm hc.1) hc.2]
    have e1 : decide (0 - a < 0 - b) = !decide (a < b) := by by_cases h : a < b <;> simp [h] <;> omega
    have hcb := hc.1
    have e2 : decide (0 - c < 0 - b) = !decide (c < b) := by by_cases h : c < b <;> simp [h] <;> omega
    rw [e1, e2]
    by_cases h : decide (a < b) = decide (c < b)
    · rw [if_pos h, if_pos (by rw [h])]; rfl
    · rw [if_neg h, if_neg (by intro z; exact h (by simpa using z))]
theorem turn_sh (b : Int) : ∀ row : List Int, turn (moves (row.map (· + b))) = (turn (moves row)).map (· + b)
  | [] => rfl
  | x :: r => by
    simp only [List.map_cons, moves, turn]
    rw [mv_sh]
    cases mvFrom x r with
    | nil => rfl
    | cons c m => simp only [List.map_cons, tl]; rw [tn_sh]
theorem turn_ov : ∀ row : List Int, turn (moves (row.map (0 - ·))) = (turn (moves row)).map (0 - ·)
  | [] => rfl
  | x :: r => by
    simp only [List.map_cons, moves, turn]
    have hc := ch_mv r x
    rw [mv_ov]
    cases h : mvFrom x r with
    | nil => rfl
    | cons c m =>
      rw [h] at hc
      simp only [List.map_cons, tl]
      rw [tn_ov m x c (Ne.symm hc.1) hc.2]
theorem swf_sh (lo hi b c : Int) (x : Bool) : swf lo hi (c + b) x = swf (lo - b) (hi - b) c x := by
  unfold swf
  (repeat' split) <;> first | rfl | (exfalso; omega)
theorem fo_sh (lo hi b : Int) : ∀ (L : List Int) (x : Bool), fo (swf lo hi) x (L.map (· + b)) = fo (swf (lo - b) (hi - b)) x L
  | [], _ => rfl
  | c :: L, x => by
    simp only [List.map_cons, fo_cons]
    rw [swf_sh, fo_sh lo hi b L]
theorem swf_ov {lo hi c : Int} (h : lo < hi) (x : Bool) : swf lo hi (0 - c) x = !(swf (-hi) (-lo) c (!x)) := by
  unfold swf
  by_cases h1 : hi ≤ 0 - c
  · rw [if_pos h1, if_neg (by omega), if_pos (by omega)]; rfl
  · rw [if_neg h1]
    by_cases h2 : 0 - c ≤ lo
    · rw [if_pos h2, if_pos (by omega)]; rfl
    · rw [if_neg h2, if_neg (by omega), if_neg (by omega)]; simp
theorem fo_ov {lo hi : Int} (h : lo < hi) : ∀ (L : List Int) (x : Bool), fo (swf lo hi) x (L.map (0 - ·)) = !(fo (swf (-hi) (-lo)) (!x) L)
  | [], x => by show x = !(!x); simp
  | c :: L, x => by
    simp only [List.map_cons, fo_cons]
    rw [swf_ov h, fo_ov h L]
    simp
theorem nest_sh (b : Int) : ∀ (S : List Int), Nest S → Nest (S.map (· + b))
  | [], _ => trivial
  | [_], _ => trivial
  | [a, c], h => by
    have := h.1
    exact ⟨show a + b ≠ c + b by omega, trivial, trivial⟩
  | a :: c :: d :: r, h => by
    have ih := nest_sh b (c :: d :: r) h.2.2
    have h1 := h.1
    have h2 := h.2.1
    refine ⟨show a + b ≠ c + b by omega, show (a + b < c + b → a + b < d + b ∧ d + b < c + b) ∧ (c + b < a + b → c + b < d + b ∧ d + b < a + b) from ⟨fun z => ?_, fun z => ?_⟩, ih⟩
    · have := h2.1 (by omega); omega
    · have := h2.2 (by omega); omega
theorem nest_ov : ∀ (S : List Int), Nest S → Nest (S.map (0 - ·))
  | [], _ => trivial
  | [_], _ => trivial
  | [a, c], h => by
    have := h.1
    exact ⟨show 0 - a ≠ 0 - c by omega, trivial, trivial⟩
  | a :: c :: d :: r, h => by
    have ih := nest_ov (c :: d :: r) h.2.2
    have h1 := h.1
    have h2 := h.2.1
    refine ⟨show 0 - a ≠ 0 - c by omega, show (0 - a < 0 - c → 0 - a < 0 - d ∧ 0 - d < 0 - c) ∧ (0 - c < 0 - a → 0 - c < 0 - d ∧ 0 - d < 0 - a) from ⟨fun z => ?_, fun z => ?_⟩, ih⟩
    · have := h2.2 (by omega); omega
    · have := h2.1 (by omega); omega
theorem std_sh (b : Int) (row : List Int) : std (row.map (· + b)) = (std row).map (· + b) := by
  refine sep (std_nested _) (nest_sh b _ (std_nested row)) ?_
  refine (std_stands _).std.agree.symm.trans fun lo hi h x => ?_
  rw [fo_sh, fo_sh]
  exact (std_stands row).std.agree _ _ (by omega) x
theorem std_ov (row : List Int) : std (row.map (0 - ·)) = (std row).map (0 - ·) := by
  refine sep (std_nested _) (nest_ov _ (std_nested row)) ?_
  refine (std_stands _).std.agree.symm.trans fun lo hi h x => ?_
  rw [fo_ov h, fo_ov h]
  exact congrArg (!·) ((std_stands row).std.agree _ _ (by omega) (!x))
/-! papers -/
section
variable {n : Nat} {D F G F' G' : Fn} {b : Int}
theorem fm_sh (h : ∀ j : Int, -1 ≤ j → j < n → F' j = F j + b ∧ G' j = G j + b) : ∀ k : Nat, k ≤ n → (0 < n) → fm F' G' k = fm F G k
  | 0, _, h0 => by
    have := h (-1) (by omega) (by omega)
    unfold fm sgn
    rw [this.1, this.2]
    by_cases e : F (-1) = G (-1)
    · rw [if_pos (by omega), if_pos e]
    · rw [if_neg (by omega), if_neg e]
      by_cases l : F (-1) < G (-1)
      · rw [if_pos (by omega), if_pos l]
      · rw [if_neg (by omega), if_neg l]
  | k + 1, hk, h0 => by
    have := h k (by omega) (by omega)
    unfold fm sgn
    rw [this.1, this.2]
    by_cases e : F k = G k
    · rw [if_pos (by omega), if_pos e]; exact fm_sh h k (by omega) h0
    · rw [if_neg (by omega), if_neg e]
      by_cases l : F k < G k
      · rw [if_pos (by omega), if_pos l]
      · rw [if_neg (by omega), if_neg l]
theorem bey_sh (h : ∀ j : Int, -1 ≤ j → j < n → G' j = G j + b) {a : Must} {w : Int} (ha : -1 ≤ a.1 ∧ a.1 < n) (hw : -1 ≤ w ∧ w < n) : bey D G' a w ↔ bey D G a w := by
  unfold bey mp
  rw [h _ ha.1 ha.2, h _ hw.1 hw.2, show G a.1 + b + a.2 * D a.1 - (G w + b) = G a.1 + a.2 * D a.1 - G w by omega]
theorem rst_sh (h : ∀ j : Int, -1 ≤ j → j < n → G' j = G j + b) : ∀ (k : Nat) (a : Must), -1 ≤ a.1 ∧ a.1 < n → k ≤ n → 0 < n → rst D G' k a = rst D G k a
  | 0, a, ha, _, h0 => by
    unfold rst
    by_cases e : bey D G a (-1)
    · rw [if_pos ((bey_sh h ha ⟨by omega, by omega⟩).mpr e), if_pos e]
    · rw [if_neg fun z => e ((bey_sh h ha ⟨by omega, by omega⟩).mp z), if_neg e]
  | k + 1, a, ha, hk, h0 => by
    unfold rst
    by_cases e : bey D G a k
    · rw [if_pos ((bey_sh h ha ⟨by omega, by omega⟩).mpr e), if_pos e, rst_sh h k _ ⟨by simp only; omega, by simp only; omega⟩ (by omega) h0]
    · rw [if_neg fun z => e ((bey_sh h ha ⟨by omega, by omega⟩).mp z), if_neg e, rst_sh h k a ha (by omega) h0]
theorem paper_sh (h0 : 0 < n) (h : ∀ j : Int, -1 ≤ j → j < n → F' j = F j + b ∧ G' j = G j + b) : paper n D F' G' = paper n D F G := by
  unfold paper
  rw [fm_sh h n (Nat.le_refl _) h0]
  rcases fm_spec (F := F) (G := G) n with ⟨e, _⟩ | ⟨w, e, hw1, hw2, _⟩
  · rw [e]
  · rw [e]
    simp only
    unfold rstOf
    split
    · rfl
    · rw [rst_sh (fun j h1 h2 => (h j h1 h2).2) _ _ ⟨hw1, hw2⟩ (by first | omega | (simp only; omega)) h0]
def flip (m : Must) : Must := (m.1, 0 - m.2)
theorem fm_ov (h : ∀ j : Int, -1 ≤ j → j < n → F' j = 0 - F j ∧ G' j = 0 - G j) : ∀ k : Nat, k ≤ n → (0 < n) → fm F' G' k = (fm F G k).map flip
  | 0, _, h0 => by
    have := h (-1) (by omega) (by omega)
    unfold fm sgn
    rw [this.1, this.2]
    by_cases e : F (-1) = G (-1)
    · rw [if_pos (by omega), if_pos e]; rfl
    · rw [if_neg (by omega), if_neg e]
      by_cases l : F (-1) < G (-1)
      · rw [if_neg (by omega), if_pos l]; rfl
      · rw [if_pos (by omega), if_neg l]; rfl
  | k + 1, hk, h0 => by
    have := h k (by omega) (by omega)
    unfold fm sgn
    rw [this.1, this.2]
    by_cases e : F k = G k
    · rw [if_pos (by omega), if_pos e]; exact fm_ov h k (by omega) h0
    · rw [if_neg (by omega), if_neg e]
      by_cases l : F k < G k
      · rw [if_neg (by omega), if_pos l]; rfl
      · rw [if_pos (by omega), if_neg l]; rfl
theorem mp_ov (h : ∀ j : Int, -1 ≤ j → j < n → G' j = 0 - G j) {a : Must} (ha : -1 ≤ a.1 ∧ a.1 < n) : mp D G' (flip a) = 0 - mp D G a := by
  unfold mp flip
  simp only
  rw [h _ ha.1 ha.2, Int.sub_mul]
  omega
theorem bey_ov (h : ∀ j : Int, -1 ≤ j → j < n → G' j = 0 - G j) {a : Must} {w : Int} (ha : -1 ≤ a.1 ∧ a.1 < n) (hw : -1 ≤ w ∧ w < n) : bey D G' (flip a) w ↔ bey D G a w := by
  unfold bey
  rw [mp_ov h ha, h _ hw.1 hw.2]
  have : (0 - mp D G a - (0 - G w)) * (flip a).2 = (mp D G a - G w) * a.2 := by
    unfold flip
    simp only
    rw [show 0 - mp D G a - (0 - G w) = -(mp D G a - G w) by omega, show (0 : Int) - a.2 = -a.2 by omega, Int.neg_mul_neg]
  rw [this]
theorem rst_ov (h : ∀ j : Int, -1 ≤ j → j < n → G' j = 0 - G j) : ∀ (k : Nat) (a : Must), -1 ≤ a.1 ∧ a.1 < n → k ≤ n → 0 < n → rst D G' k (flip a) = (rst D G k a).map flip
  | 0, a, ha, _, h0 => by
    unfold rst
    by_cases e : bey D G a (-1)
    · rw [if_pos ((bey_ov h ha ⟨by omega, by omega⟩).mpr e), if_pos e]
      simp [flip]
    · rw [if_neg fun z => e ((bey_ov h ha ⟨by omega, by omega⟩).mp z), if_neg e]; rfl
  | k + 1, a, ha, hk, h0 => by
    unfold rst
    have eq : ((k : Int), -(flip a).2) = flip ((k : Int), -a.2) := by simp [flip]
    by_cases e : bey D G a k
    · rw [if_pos ((bey_ov h ha ⟨by omega, by omega⟩).mpr e), if_pos e, eq, rst_ov h k _ ⟨by simp only; omega, by simp only; omega⟩ (by omega) h0]; rfl
    · rw [if_neg fun z => e ((bey_ov h ha ⟨by omega, by omega⟩).mp z), if_neg e, rst_ov h k a ha (by omega) h0]
theorem paper_ov (h0 : 0 < n) (h : ∀ j : Int, -1 ≤ j → j < n → F' j = 0 - F j ∧ G' j = 0 - G j) : paper n D F' G' = (paper n D F G).map flip := by
  unfold paper
  rw [fm_ov h n (Nat.le_refl _) h0]
  rcases fm_spec (F := F) (G := G) n with ⟨e, _⟩ | ⟨w, e, hw1, hw2, _⟩
  · rw [e]; rfl
  · rw [e]
    simp only [List.map_cons, List.map_nil]
    unfold rstOf
    rw [show (flip (w, sgn F G w)).1 = w from rfl]
    split
    · rfl
    · rw [rst_ov (fun j h1 h2 => (h j h1 h2).2) _ _ ⟨hw1, hw2⟩ (by first | omega | (simp only; omega)) h0]
theorem chain_in : ∀ {ms : List Must} {a : Must}, chain n D G a ms → ∀ m ∈ ms, -1 ≤ m.1 ∧ m.1 < n
  | [], _, _, m, hm => by simp at hm
  | x :: ms, a, h, m, hm => by
    rcases List.mem_cons.mp hm with e | e
    · subst e; exact ⟨h.1.1, h.1.2.1⟩
    · exact chain_in h.2.2 m e
theorem paper_in : ∀ m ∈ paper n D F G, -1 ≤ m.1 ∧ m.1 < n := by
  have h := paper_isPap (n := n) (D := D) (F := F) (G := G)
  intro m hm
  revert h hm
  cases paper n D F G with
  | nil => intro h hm; simp at hm
  | cons a ms =>
    intro h hm
    rcases List.mem_cons.mp hm with e | e
    · subst e; exact ⟨h.1.1, h.1.2.1⟩
    · exact chain_in h.2.2 m e
end
theorem pc_sh {xs : List Int} {h b : Int} {j : Int} (h1 : -1 ≤ j) (h2 : j < xs.length) : pc (xs.map (· + b)) (h + b) j = pc xs h j + b := by
  unfold pc
  split
  · rfl
  · rw [List.getD_eq_getElem?_getD, List.getD_eq_getElem?_getD, List.getElem?_map, List.getElem?_eq_getElem (by omega)]
    rfl
theorem pc_ov {xs : List Int} {h : Int} {j : Int} (h1 : -1 ≤ j) (h2 : j < xs.length) : pc (xs.map (0 - ·)) (0 - h) j = 0 - pc xs h j := by
  unfold pc
  split
  · rfl
  · rw [List.getD_eq_getElem?_getD, List.getD_eq_getElem?_getD, List.getElem?_map, List.getElem?_eq_getElem (by omega)]
    rfl
section
variable {ps ws gs : List Int} {h e : Int}
theorem told_sh (b : Int) (h0 : 0 < ps.length) (h1 : ws.length = ps.length) (h2 : gs.length = ps.length) : told ps (h + b) (ws.map (· + b)) (e + b) (gs.map (· + b)) = told ps h ws e gs :=
  paper_sh (b := b) h0 fun j j1 j2 => ⟨pc_sh j1 (by omega), pc_sh j1 (by omega)⟩
theorem told_ov (h0 : 0 < ps.length) (h1 : ws.length = ps.length) (h2 : gs.length = ps.length) : told ps (0 - h) (ws.map (0 - ·)) (0 - e) (gs.map (0 - ·)) = (told ps h ws e gs).map flip :=
  paper_ov h0 fun j j1 j2 => ⟨pc_ov j1 (by omega), pc_ov j1 (by omega)⟩
theorem toldRow_sh (b : Int) (h0 : 0 < ps.length) (h1 : ws.length = ps.length) (h2 : gs.length = ps.length) : toldRow ps (h + b) (ws.map (· + b)) (e + b) (gs.map (· + b)) = (toldRow ps h ws e gs).map (· + b) := by
  unfold toldRow
  rw [told_sh b h0 h1 h2, List.map_map]
  refine List.map_congr_left fun m hm => ?_
  have := paper_in m hm
  simp only [Function.comp, mp]
  rw [pc_sh this.1 (by omega)]
  omega
theorem toldRow_ov (h0 : 0 < ps.length) (h1 : ws.length = ps.length) (h2 : gs.length = ps.length) : toldRow ps (0 - h) (ws.map (0 - ·)) (0 - e) (gs.map (0 - ·)) = (toldRow ps h ws e gs).map (0 - ·) := by
  unfold toldRow
  rw [told_ov h0 h1 h2, List.map_map, List.map_map]
  refine List.map_congr_left fun m hm => ?_
  have := paper_in m hm
  simp only [Function.comp]
  exact mp_ov (fun j j1 j2 => pc_ov j1 (by omega)) this
end
/-! swings, by the pile -/
def isSw4 : List Int → Bool
  | [a, b, c, d] => decide (ab (c - b) ≤ ab (b - a)) && decide (ab (c - b) ≤ ab (d - c))
  | _ => false
def hasS (pile : List Int) : Bool := isSw4 (pile.drop (pile.length - 4))
def delS (pile : List Int) : List Int := pile.take (pile.length - 3) ++ pile.drop (pile.length - 1)
def prS (pile : List Int) : Int × Int := (min (pile.getD (pile.length - 3) 0) (pile.getD (pile.length - 2) 0), max (pile.getD (pile.length - 3) 0) (pile.getD (pile.length - 2) 0))
def swW : Nat → List Int → List (Int × Int) → List Int × List (Int × Int)
  | 0, pile, prs => (pile, prs)
  | n + 1, pile, prs => if hasS pile = true then swW n (delS pile) (prs ++ [prS pile]) else (pile, prs)
def swF : List Int → List Int → List (Int × Int) → List Int × List (Int × Int)
  | [], pile, prs => (pile, prs)
  | x :: r, pile, prs => swF r (swW (pile.length + 1) (pile ++ [x]) prs).1 (swW (pile.length + 1) (pile ++ [x]) prs).2
theorem isSw4_sh (b : Int) : ∀ L : List Int, isSw4 (L.map (· + b)) = isSw4 L
  | [] => rfl
  | [_] => rfl
  | [_, _] => rfl
  | [_, _, _] => rfl
  | [p, q, r, s] => by
    simp only [List.map_cons, List.map_nil, isSw4]
    rw [show r + b - (q + b) = r - q by omega, show q + b - (p + b) = q - p by omega, show s + b - (r + b) = s - r by omega]
  | _ :: _ :: _ :: _ :: _ :: _ => rfl
theorem isSw4_ov : ∀ L : List Int, isSw4 (L.map (0 - ·)) = isSw4 L
  | [] => rfl
  | [_] => rfl
  | [_, _] => rfl
  | [_, _, _] => rfl
  | [p, q, r, s] => by
    simp only [List.map_cons, List.map_nil, isSw4]
    rw [show 0 - r - (0 - q) = -(r - q) by omega, show 0 - q - (0 - p) = -(q - p) by omega, show 0 - s - (0 - r) = -(s - r) by omega, ab_neg, ab_neg, ab_neg]
  | _ :: _ :: _ :: _ :: _ :: _ => rfl
theorem hasS_sh (b : Int) (L : List Int) : hasS (L.map (· + b)) = hasS L := by unfold hasS; rw [List.length_map, ← List.map_drop, isSw4_sh]
theorem hasS_ov (L : List Int) : hasS (L.map (0 - ·)) = hasS L := by unfold hasS; rw [List.length_map, ← List.map_drop, isSw4_ov]
theorem hasS_len {L : List Int} (h : hasS L = true) : 4 ≤ L.length := by
  unfold hasS at h
  have hl : (L.drop (L.length - 4)).length ≤ 4 := by rw [List.length_drop]; omega
  have h4 : (L.drop (L.length - 4)).length = 4 := by
    match hq : L.drop (L.length - 4), hl with
    | [], _ => rw [hq] at h; cases h
    | [_], _ => rw [hq] at h; cases h
    | [_, _], _ => rw [hq] at h; cases h
    | [_, _, _], _ => rw [hq] at h; cases h
    | [_, _, _, _], _ => rfl
    | _ :: _ :: _ :: _ :: _ :: _, hl => simp at hl
  rw [List.length_drop] at h4
  omega
theorem delS_map (f : Int → Int) (L : List Int) : delS (L.map f) = (delS L).map f := by unfold delS; rw [List.length_map, List.map_append, List.map_take, List.map_drop]
theorem getD_map {f : Int → Int} {L : List Int} {i : Nat} (h : i < L.length) : (L.map f).getD i 0 = f (L.getD i 0) := by
  rw [List.getD_eq_getElem?_getD, List.getD_eq_getElem?_getD, List.getElem?_map, List.getElem?_eq_getElem h]
  rfl
theorem prS_sh (b : Int) {L : List Int} (h : 4 ≤ L.length) : prS (L.map (· + b)) = ((prS L).1 + b, (prS L).2 + b) := by
  unfold prS
  rw [List.length_map, getD_map (by omega), getD_map (by omega)]
  refine Prod.ext ?_ ?_ <;> simp only <;> omega
theorem prS_ov {L : List Int} (h : 4 ≤ L.length) : prS (L.map (0 - ·)) = (0 - (prS L).2, 0 - (prS L).1) := by
  unfold prS
  rw [List.length_map, getD_map (by omega), getD_map (by omega)]
  refine Prod.ext ?_ ?_ <;> simp only <;> omega
theorem swW_sh (b : Int) : ∀ (n : Nat) (L : List Int) (ps : List (Int × Int)), swW n (L.map (· + b)) (ps.map fun p => (p.1 + b, p.2 + b)) = ((swW n L ps).1.map (· + b), (swW n L ps).2.map fun p => (p.1 + b, p.2 + b))
  | 0, _, _ => rfl
  | n + 1, L, ps => by
    unfold swW
    rw [hasS_sh]
    by_cases h : hasS L = true
    · rw [if_pos h, if_pos h, delS_map, prS_sh b (hasS_len h), ← swW_sh b n, List.map_append]; rfl
    · rw [if_neg h, if_neg h]
theorem swW_ov : ∀ (n : Nat) (L : List Int) (ps : List (Int × Int)), swW n (L.map (0 - ·)) (ps.map fun p => (0 - p.2, 0 - p.1)) = ((swW n L ps).1.map (0 - ·), (swW n L ps).2.map fun p => (0 - p.2, 0 - p.1))
  | 0, _, _ => rfl
  | n + 1, L, ps => by
    unfold swW
    rw [hasS_ov]
    by_cases h : hasS L = true
    · rw [if_pos h, if_pos h, delS_map, prS_ov (hasS_len h), ← swW_ov n, List.map_append]; rfl
    · rw [if_neg h, if_neg h]
theorem swF_sh (b : Int) : ∀ (r L : List Int) (ps : List (Int × Int)), swF (r.map (· + b)) (L.map (· + b)) (ps.map fun p => (p.1 + b, p.2 + b)) = ((swF r L ps).1.map (· + b), (swF r L ps).2.map fun p => (p.1 + b, p.2 + b))
  | [], _, _ => rfl
  | x :: r, L, ps => by
    simp only [List.map_cons, swF]
    have e := swW_sh b (L.length + 1) (L ++ [x]) ps
    rw [List.map_append, List.map_cons, List.map_nil] at e
    rw [List.length_map, e, swF_sh b r]
theorem swF_ov : ∀ (r L : List Int) (ps : List (Int × Int)), swF (r.map (0 - ·)) (L.map (0 - ·)) (ps.map fun p => (0 - p.2, 0 - p.1)) = ((swF r L ps).1.map (0 - ·), (swF r L ps).2.map fun p => (0 - p.2, 0 - p.1))
  | [], _, _ => rfl
  | x :: r, L, ps => by
    simp only [List.map_cons, swF]
    have e := swW_ov (L.length + 1) (L ++ [x]) ps
    rw [List.map_append, List.map_cons, List.map_nil] at e
    rw [List.length_map, e, swF_ov r]
end M

set_option Elab.async false
set_option linter.all false
set_option maxRecDepth 100000
/-! (a, b, ..) = a list of that length -/
namespace L2
open PySem PySem.Spec PyProof.Rows
section
variable {prog : Program} {w : World} {A : Around} {E : Value → Shared → Prop} {s : Shared}
theorem isList_ext {h h' : Heap} {l b : Addr} {items : Array Value} (x : h.IsList l items) (e : Heap.ExtBut b h h') (n : l ≠ b) : h'.IsList l items := by
  obtain ⟨o, ho, r⟩ := x
  exact ⟨o, e l o n ho, r⟩
theorem draw_list {it t : Addr} {items : Array Value} (hne : t ≠ it) : ∀ (n i : Nat) (s : Shared) (Q : List Value → Shared → Prop), s.heap.IsListIter it t i → s.heap.IsList t items → i + n ≤ items.size →
    (∀ h', h'.IsListIter it t (i + n) → Heap.SameBut it s.heap h' → Q ((items.toList.drop i).take n) { s with heap := h' }) → wpAny (model prog w) A (draw (.ref it) n) Q E s
  | 0, i, s, Q, hit, _, _, hQ => by
    show wpAny _ _ (pure []) Q E s
    exact wpAny_pure (by simpa using hQ s.heap hit (Heap.SameBut.refl ..))
  | n + 1, i, s, Q, hit, ht, hle, hQ => by
    have hlt : i < items.size := by omega
    show wpAny _ _ (pyNext (.ref it) >>= _) Q E s
    refine wpAny_bind (wpAny_pyNext_list_item hit ht (x := items[i]) (by simp [hlt]) fun h₁ hit₁ hs₁ => ?_)
    refine wpAny_bind (wpAny_holding (draw_list hne n (i + 1) _ _ hit₁ (isList_ext ht hs₁.extBut hne) (by omega) fun h₂ hit₂ hs₂ => wpAny_pure ?_))
    have hd : items.toList.drop i = items[i] :: items.toList.drop (i + 1) := by simp [List.drop_eq_getElem_cons, hlt]
    have := hQ h₂ (by rw [show i + (n + 1) = i + 1 + n by omega]; exact hit₂) (hs₁.trans hs₂)
    rw [hd, List.take_succ_cons] at this
    exact this
theorem unpackItems_list {t : Addr} {items : Array Value} {Q : List Value → Shared → Prop} (hh : A.handled = none) (ht : s.heap.IsList t items)
    (hQ : ∀ h', Heap.ExtBut s.heap.objs.size s.heap h' → Q items.toList { s with heap := h' }) : wpAny (model prog w) A (unpackItems (.ref t) items.size none) Q E s := by
  have hlt : t ≠ s.heap.objs.size := by obtain ⟨o, ho, _⟩ := ht; exact Nat.ne_of_lt (Heap.lt_size ho)
  have push : ∀ o, (s.heap.push o).IsList t items := fun o => by
    obtain ⟨ob, ho, r⟩ := ht
    exact ⟨ob, Heap.get?_push_of_some _ ho, r⟩
  unfold unpackItems
  refine wpAny_bind ?_
  · unfold notIterableAtAll
    refine wpAny_bind (wpAny_specialOf ht.typeIs slot_list_iter.lookup ?_)
    refine wpAny_pure ?_
    simp only [Bool.false_eq_true, if_false]
    refine wpAny_bind (wpAny_holding (wpAny_pyIter_list ht ?_))
    refine wpAny_bind (wpAny_holding (draw_list hlt items.size 0 _ _ ⟨_, Heap.get?_push_size _ rfl, rfl, rfl⟩ (push _) (by omega) fun h₁ hit₁ hs₁ => ?_))
    have hall : List.take items.size (List.drop 0 items.toList) = items.toList := by
      rw [List.drop_zero]; exact List.take_of_length_le (by simp)
    rw [hall]
    rw [if_neg (by simp)]
    have ht₁ : h₁.IsList t items := isList_ext (push _) hs₁.extBut hlt
    refine wpAny_bind (wpAny_holding (wpAny_pyNext_list_end hh hit₁ ht₁ (by simp) fun h₂ he₂ => ?_))
    simp only [Option.isSome_none, Bool.false_eq_true, if_false]
    refine wpAny_pure (hQ h₂ fun b o hb e => he₂ b o hb (hs₁.extBut b o hb (Heap.get?_push_of_some _ e)))
theorem assign_Tuple_list {env : Env} {elts : List Expr} {x1} {pos : Pos} {t : Addr} {items : Array Value} {Q : Unit → Shared → Prop} (hh : A.handled = none) (ht : s.heap.IsList t items)
    (hn : (assignEach elts env).length = items.size) (hstar : (assignEach elts env).findIdx? (·.1) = none)
    (h : ∀ h', Heap.ExtBut s.heap.objs.size s.heap h' → wpAny (model prog w) A (assignInOrder ((assignEach elts env).map (·.2)) items.toList) Q E { s with heap := h' }) :
    wpAny (model prog w) A (assign (.Tuple elts x1 pos) env (.ref t)) Q E s := by
  rw [assign_Tuple]
  refine wpAny_bind (wpAny_standAt ?_)
  unfold unpack
  rw [hn, hstar]
  exact wpAny_bind (wpAny_holding (unpackItems_list hh ht h))
end
section
variable {X : Cx} {pos : Pos}
def gLst (K : PySem.W.Frag) (n : Nat) (t : TGs) : TG := fun v σ H Q => ∃ a xs, v = .ref a ∧ SqL K H a xs ∧ xs.length = n ∧ t xs σ H Q
theorem pg_lst {es : List Expr} {k : Nat} {t : TGs} {n : Nat} (hc : X.calm = true) (h : PGs X es t)
    (hn : (assignEach es X.env).length = n := by rfl) (hst : (assignEach es X.env).findIdx? (·.1) = none := by rfl) : PG X (.Tuple es k pos) (gLst X.K n t) := by
  intro pins s σ H v u Q I r hw
  obtain ⟨a, xs, e1, hq, hl, hw⟩ := hw
  subst e1
  cases r
  obtain ⟨its, rv, ht, hz⟩ := I.list hq
  refine assign_Tuple_list (I.ok.hd hc) ht.isList (by simp [hn, ← hl, rv.length]) hst fun h' hx => ?_
  have I1 : Inv X pins σ H { s with heap := h' } := I.kept (t' := s.toks) fun b o e => hx b o (Nat.ne_of_lt (Heap.lt_size e)) e
  exact h pins _ σ H xs _ Q I1 (by simpa using rv) hw
theorem pg_lstK (K : PySem.W.Frag) {es : List Expr} {k : Nat} {t : TGs} (n : Nat) (h : PGs X es t) (hc : X.calm = true := by rfl) (hn : (assignEach es X.env).length = n := by rfl) (hst : (assignEach es X.env).findIdx? (·.1) = none := by rfl) (hK : X.K = K := by rfl) : PG X (.Tuple es k pos) (gLst K n t) := by
  subst hK; exact pg_lst hc h hn hst
end
end L2

set_option Elab.async false
set_option linter.all false
set_option maxRecDepth 100000
/-! xs[::-1], xs.index(i), xs.insert(i, x) -/
namespace L2
open PySem PySem.Spec PyProof.Rows
section
variable {X : Cx} {e k : Expr} {te : TE} {tk : TO} {pos p2 : Pos}
def rRev (K : PySem.W.Frag) : V → Hp → VK → Prop := fun x H Q => ∃ a xs, x = .ref a ∧ SqL K H a xs ∧ ∀ p, H p = none → Q (.ref p) (upd H p (.lst xs.reverse))
def tRev (K : PySem.W.Frag) (te : TE) (tk : TO) : TE := fun σ H Q => te σ H fun x H1 => tk σ H1 fun j H2 => j = some (-1) ∧ rRev K x H2 Q
end
section
variable {X : Cx}
def rIndex : V → List V → Hp → VK → Prop := fun x vs H Q => ∃ l ns k, x = .ref l ∧ vs = [.int k] ∧ H l = some (.lst (iL ns)) ∧ k ∈ ns ∧ Q (.int (ns.idxOf k : Nat)) H
def rInsert : V → List V → Hp → VK → Prop := fun x vs H Q => ∃ l xs y, x = .ref l ∧ vs = [.int 0, y] ∧ H l = some (.lst xs) ∧ xs.length < sizeLine ∧ Q .non (upd H l (.lst (y :: xs)))
end
section
variable {K : PySem.W.Frag} {H : Hp} {Q : VK}
end
end L2

set_option Elab.async false
set_option linter.all false
set_option maxRecDepth 100000
/-! del xs[a:b]; slices of any sign -/
namespace L2
open PySem PySem.Spec PyProof.Rows
def sel (start stop step : Int) (i : Nat) : Bool :=
  if step > 0 then start ≤ i && i < stop && (i - start) % step == 0
  else stop < i && i ≤ start && (start - i) % (-step) == 0
theorem list_delitem_eq (l i : Value) : Builtin.«list.__delitem__» ⟨[l, i], []⟩ = (do
    let (self, [i]) ← slotArgs "__delitem__" 1 ⟨[l, i], []⟩ | unsupported "internal:list.__delitem__"
    if let some k ← Builtin.List.listSubscript? i then
      match seqIndex? k (← Builtin.List.listItems self).size with
      | some k => Builtin.List.listUpdate self (·.eraseIdxIfInBounds k); return ← ret .none
      | none => rule "list.__delitem__.out-of-range"; raiseError "IndexError" "list assignment index out of range"
    if (← typeOf i) != .type "slice" then Builtin.List.listBadSubscript i
    let (lo, hi, st) ← Builtin.List.listSliceParts i
    let old ← Builtin.List.listItems self
    let (start, stop, step) ← sliceIndices lo hi st old.size
    rule "list.__delitem__.slice"
    Builtin.List.listUpdate self fun xs => (xs.toList.zipIdx.filterMap fun (x, k) => if sel start stop step k then none else some x).toArray
    let gone := old.toList.zipIdx.filterMap fun (x, k) => if sel start stop step k then some x else none
    letGo (if step == 1 then gone.reverse else gone)
    ret .none) := rfl
theorem del_run {α : Type} {a b : Nat} (hab : a ≤ b) : ∀ (xs : List α) (i : Nat), (xs.zipIdx i).filterMap (fun p => if sel (a : Int) (b : Int) 1 p.2 = true then none else some p.1) = xs.take (a - i) ++ xs.drop (b - i)
  | [], i => by simp
  | x :: xs, i => by
    have hs : sel (a : Int) (b : Int) 1 i = decide (a ≤ i ∧ i < b) := by
      unfold sel
      rw [if_pos (by decide)]
      by_cases h1 : a ≤ i <;> by_cases h2 : i < b <;> simp [h1, h2] <;> omega
    rw [List.zipIdx_cons, List.filterMap_cons]
    simp only [hs]
    by_cases h1 : a ≤ i
    · by_cases h2 : i < b
      · rw [if_pos (by simp [h1, h2])]
        simp only
        rw [del_run hab xs (i + 1), show a - (i + 1) = 0 by omega, show a - i = 0 by omega, show b - i = (b - (i + 1)) + 1 by omega]
        simp
      · rw [if_neg (by simp; omega)]
        simp only
        rw [del_run hab xs (i + 1), show a - (i + 1) = 0 by omega, show a - i = 0 by omega, show b - i = 0 by omega, show b - (i + 1) = 0 by omega]
        simp
    · rw [if_neg (by simp; omega)]
      simp only
      rw [del_run hab xs (i + 1), show a - i = (a - (i + 1)) + 1 by omega, show b - i = (b - (i + 1)) + 1 by omega]
      simp
theorem del_none {α : Type} {a b : Nat} (hab : ¬ a ≤ b) : ∀ (xs : List α) (i : Nat), (xs.zipIdx i).filterMap (fun p => if sel (a : Int) (b : Int) 1 p.2 = true then none else some p.1) = xs
  | [], i => by simp
  | x :: xs, i => by
    have hs : sel (a : Int) (b : Int) 1 i = false := by
      unfold sel
      rw [if_pos (by decide)]
      by_cases h1 : a ≤ i
      · have h2 : ¬ i < b := by omega
        simp [h1, h2]
      · simp [h1]
    rw [List.zipIdx_cons, List.filterMap_cons]
    simp only [hs]
    rw [if_neg (by simp)]
    simp only
    rw [del_none hab xs (i + 1)]
/-- what is left of xs behind del xs[lo:hi] -/
def delV (xs : List V) (lo hi : Option Int) : List V := if HT.sIx xs.length 0 lo ≤ HT.sIx xs.length xs.length hi then xs.take (HT.sIx xs.length 0 lo) ++ xs.drop (HT.sIx xs.length xs.length hi) else xs
section
variable {prog : Program} {w : World} {A : Around} {E : Value → Shared → Prop} {s : Shared}
theorem delItem_slice {l sl : Addr} {its : List Value} {n : Nat} {vl vu : Value} {lo hi : Option Int} {Q : Unit → Shared → Prop} (ho : s.heap.get? l = some { cls := .type "list", data := .seq its.toArray n })
    (hs : s.heap.IsSliceOf sl vl vu .none) (pl : IsPart vl lo) (pu : IsPart vu hi) (hz : its.length ≤ sizeLine)
    (h : Q () { s with heap := s.heap.update l (Obj.mapSeq fun xs => (xs.toList.zipIdx.filterMap fun p => if sel (HT.sIx its.length 0 lo : Nat) (HT.sIx its.length its.length hi : Nat) 1 p.2 = true then none else some p.1).toArray) }) :
    wpAny (model prog w) A (delItem (.ref l) (.ref sl)) Q E s := by
  obtain ⟨os, hos, hcs, hds⟩ := id hs
  have hTs : s.TypeIs (.ref sl) "slice" := ⟨os, hos, hcs⟩
  refine wpAny_delItem_slot ⟨_, ho, rfl⟩ (by decide) PySem.F.slot_list_delitem (wpAny_call_entry PySem.F.slot_list_delitem ⟨_, ho, rfl⟩ PySem.F.entry_list_delitem ?_ (PySem.F.args_list_delitem_2 _ _))
  rw [list_delitem_eq]
  show wpAny _ _ (Builtin.List.listSubscript? (.ref sl) >>= _) _ _ s
  refine wpAny_bind ?_
  unfold Builtin.List.listSubscript?
  refine wpAny_bind (wpAny_specialOf hTs slice_no_index ?_)
  simp only [Option.isNone_none, if_true]
  refine wpAny_pure ?_
  show wpAny _ _ (typeOf (.ref sl) >>= _) _ _ s
  refine wpAny_bind (wpAny_typeOf hTs ?_)
  rw [if_neg (by decide)]
  rw [listSliceParts_eq]
  refine wpAny_bind (wpAny_bind (wpAny_field hos hds (x := .none) rfl (wpAny_bind (wpAny_listPart .none ?_))))
  rw [if_neg (by exact Bool.false_ne_true)]
  refine wpAny_bind (wpAny_field hos hds (x := vl) rfl (wpAny_bind (wpAny_listPart pl ?_)))
  refine wpAny_bind (wpAny_field hos hds (x := vu) rfl (wpAny_bind (wpAny_listPart pu (wpAny_pure ?_))))
  refine wpAny_bind (listItems_at ho rfl ?_)
  refine wpAny_bind (wpAny_of_eq (sliceIndices_raw lo hi none its.toArray.size (by simp)) ?_)
  refine wpAny_bind (wpAny_rule ?_)
  obtain ⟨b1, b2, b3⟩ := slice_bounds lo hi its.length
  rw [show its.toArray.size = its.length from List.size_toArray ..]
  rw [b1, b2, b3]
  refine wpAny_bind (listUpdate_at ho rfl ?_ (by rw [List.size_toArray]; exact hz) (by
    rw [List.size_toArray]
    refine Nat.le_trans (List.length_filterMap_le _ _) ?_
    rw [List.length_zipIdx]
    show its.length ≤ _
    omega))
  refine wpAny_bind (wpAny_letGo ?_)
  exact wpAny_pure ⟨_, rfl, h⟩
end
section
variable {X : Cx} {o : Expr} {to : TE} {lo hi : Option Expr} {tl th : TO} {pos p1 p2 : Pos}
def tDelS (to : TE) (tl th : TO) : TS := fun D σ H => to σ H fun x H1 => tl σ H1 fun a H2 => th σ H2 fun b H3 => ∃ l xs, x = .ref l ∧ H3 l = some (.lst xs) ∧ D.nx σ (upd H3 l (.lst (delV xs a b)))
theorem ps_delS (ho : PE X o to) (hl : PO X lo tl) (hu : PO X hi th) : PS X (.Delete [.Subscript o (.Slice lo hi none p2) p1] pos) (tDelS to tl th) := by
  intro pins s σ H D I h
  refine wpAny_Delete (wpAny_deleteEach_cons (wpAny_delete_Subscript (thn (ho pins s σ H _ I h) fun u s1 ⟨x, H1, I1, rx, q1⟩ => ?_)))
  refine wpAny_Slice (thn (hl pins s1 σ H1 _ I1 q1) fun vl s2 ⟨a, H2, I2, pl, q2⟩ => thn (hu pins s2 σ H2 _ I2 q2) fun vu s3 ⟨b, H3, I3, pu, l, xs, ex, e, q3⟩ => ?_)
  subst ex
  obtain rfl : u = Value.ref l := rx
  rw [evalPart_none]
  refine wpAny_pure ?_
  have I4 : Inv X pins σ H3 { s3 with heap := s3.heap.push { cls := .type "slice", data := .fields #[vl, vu, .none] } } := I3.kept (t' := s3.toks) fun b ob q => Heap.get?_push_of_some _ q
  obtain ⟨z, its, n, r, hlen, ee⟩ := I4.lstM e
  refine delItem_slice ee (Heap.IsSliceOf.new ..) pl pu (by omega) (wpAny_deleteEach_nil ⟨σ, _, I4.lset (its' := ?_) e ee ?_ ?_ ?_, q3⟩)
  · exact if HT.sIx xs.length 0 a ≤ HT.sIx xs.length xs.length b then its.take (HT.sIx xs.length 0 a) ++ its.drop (HT.sIx xs.length xs.length b) else its
  · simp only [← hlen]
    congr 1
    split
    · rename_i hab
      have := del_run hab its 0
      simpa using this
    · rename_i hab
      exact del_none hab its 0
  · unfold delV
    split
    · exact (r.take _).append (r.drop _)
    · exact r
  · unfold delV
    split
    · rw [List.length_append, List.length_take, List.length_drop]; omega
    · exact z
end
/-! ### the places that a slice of a sign below 0 means -/
theorem sIx_neg (n d : Nat) {k : Nat} (hk : 0 < k) : HT.sIx n d (some (-(k : Int))) = n - k := by
  unfold HT.sIx
  simp only
  split <;> (try split) <;> omega
theorem sIx_none (n d : Nat) : HT.sIx n d none = d := rfl
section
variable {K : PySem.W.Frag} {H : Hp} {Q : VK} {p : Addr}
theorem cut_end4 {A : List V} {a b c d : V} : cutV (A ++ [a, b, c, d]) (some (-4)) none = [a, b, c, d] := by
  unfold cutV
  rw [show ((-4 : Int)) = -((4 : Nat) : Int) from rfl, sIx_neg _ _ (by decide), sIx_none]
  simp
theorem cut_mid2 {A : List V} {a b c d : V} : cutV (A ++ [a, b, c, d]) (some (-3)) (some (-1)) = [b, c] := by
  unfold cutV
  rw [show ((-3 : Int)) = -((3 : Nat) : Int) from rfl, show ((-1 : Int)) = -((1 : Nat) : Int) from rfl, sIx_neg _ _ (by decide), sIx_neg _ _ (by decide)]
  rw [show (A ++ [a, b, c, d]).length - 3 = A.length + 1 by simp, show (A ++ [a, b, c, d]).length - 1 - (A.length + 1) = 2 by simp]
  rw [show A ++ [a, b, c, d] = (A ++ [a]) ++ [b, c, d] by simp, show A.length + 1 = (A ++ [a]).length by simp, List.drop_left]
  rfl
theorem del_mid2 {A : List V} {a b c d : V} : delV (A ++ [a, b, c, d]) (some (-3)) (some (-1)) = A ++ [a, d] := by
  unfold delV
  rw [show ((-3 : Int)) = -((3 : Nat) : Int) from rfl, show ((-1 : Int)) = -((1 : Nat) : Int) from rfl, sIx_neg _ _ (by decide), sIx_neg _ _ (by decide)]
  rw [if_pos (by omega), show (A ++ [a, b, c, d]).length - 3 = (A ++ [a]).length by simp, show (A ++ [a, b, c, d]).length - 1 = (A ++ [a, b, c]).length by simp]
  rw [show (A ++ [a, b, c, d]).take (A ++ [a]).length = A ++ [a] by rw [show A ++ [a, b, c, d] = (A ++ [a]) ++ [b, c, d] by simp, List.take_left]]
  rw [show (A ++ [a, b, c, d]).drop (A ++ [a, b, c]).length = [d] by rw [show A ++ [a, b, c, d] = (A ++ [a, b, c]) ++ [d] by simp, List.drop_left]]
  simp
theorem i_slEnd4 {A : List V} {a b c d : V} (h : SqL K H p (A ++ [a, b, c, d])) (q : ∀ l, H l = none → Q (.ref l) (upd H l (.lst [a, b, c, d]))) : rSlL K (.ref p) (some (-4)) none H Q :=
  ⟨p, _, rfl, h, fun l hl => by rw [cut_end4]; exact q l hl⟩
theorem i_slMid2 {A : List V} {a b c d : V} (h : SqL K H p (A ++ [a, b, c, d])) (q : ∀ l, H l = none → Q (.ref l) (upd H l (.lst [b, c]))) : rSlL K (.ref p) (some (-3)) (some (-1)) H Q :=
  ⟨p, _, rfl, h, fun l hl => by rw [cut_mid2]; exact q l hl⟩
end
end L2

set_option Elab.async false
set_option linter.all false
set_option maxRecDepth 100000
/-! Tuples: comprehensions over one, tuple(list), what isinstance says of one. -/
namespace L2
open PySem PySem.Spec PyProof.Rows
section
variable {K : PySem.W.Frag} {g : TG} {ti : TT} {te : TE} {σc : St} {H : Hp} {Q : VK}
end
def rTupOf (K : PySem.W.Frag) : List V → Hp → VK → Prop := fun xs H Q => ∃ p ys, xs = [.ref p] ∧ ((SqL K H p ys ∧ ∀ l, H l = none → Q (.ref l) (upd H l (.tup ys))) ∨ (SqT K H p ys ∧ Q (.ref p) H))
section
variable {K : PySem.W.Frag} {H : Hp} {Q : VK}
end
end L2

set_option Elab.async false
set_option linter.all false
namespace L2
open PySem PySem.Spec PyProof.Rows
/-! ### a comprehension within the block of another one -/
theorem nest_free {X : Cx} {scope0 : Scope} {C : Addr} {N : List Str} {s₂ : Shared} {H₂ : Hp} {ex : List Addr} {x : Str} (h : scope0.names.lookup x = some .free) : (cxC X scope0 C N s₂ H₂ ex).env.kindOf x = some .cell ∨ (cxC X scope0 C N s₂ H₂ ex).env.kindOf x = some .free := relabel_free h
theorem nest_frees {X : Cx} {scope0 scope : Scope} {C : Addr} {N : List Str} {s₂ : Shared} {H₂ : Hp} {ex : List Addr} (h : ∀ y ∈ scope.names, y.2 = .free → scope0.names.lookup y.1 = some .free) :
    ∀ y ∈ scope.names, y.2 = .free → (cxC X scope0 C N s₂ H₂ ex).env.kindOf y.1 = some .cell ∨ (cxC X scope0 C N s₂ H₂ ex).env.kindOf y.1 = some .free := fun y hy e => nest_free (h y hy e)
end L2

set_option Elab.async false
set_option linter.all false
set_option maxRecDepth 100000
set_option maxHeartbeats 4000000
namespace My
open PySem L2 M
local macro_rules | `(tactic| walk_at "s1") => `(tactic| first
  | with_reducible refine i_var rfl ?_
  | with_reducible refine i_I0 ?_
  | with_reducible refine iteF ?_
  | with_reducible refine iteNT ?_
  | with_reducible refine iteNF ?_
  | with_reducible refine iteT ?_
  | with_reducible refine i_truB ?_
  | with_reducible refine i_addI ?_
  | with_reducible refine i_U ?_
  | with_reducible refine i_isB ?_
  | with_reducible refine i_isNotB ?_
  | with_reducible refine i_eqI ?_
  | with_reducible refine i_neI ?_
  | with_reducible refine i_intB ?_
  | with_reducible refine i_abs ?_
  | with_reducible refine i_isiII ?_
  | with_reducible refine i_isiIB ?_
  | with_reducible refine i_isiIL ?_
  | with_reducible refine i_isiID ?_
  | with_reducible refine i_isiIT ?_
  | with_reducible refine i_isiBB ?_
  | with_reducible refine i_div (by omega) (by omega) ?_
  | with_reducible refine i_mod (by omega) ?_
  | with_reducible refine And.intro (szl (Nat.le_of_ble_eq_true rfl)) ?_
  | with_reducible refine ⟨_, rfl, ?_⟩)
local macro_rules | `(tactic| walk_at "un") => `(tactic| try dsimp only [tSeq, tAsg, gName, tOp, tUn, tTest, tB, tAnd, tOr, tNot, tAndV, tOrV, tNotV, tIf, tIfS, tRet, tRetN, tDrop, tNext, tCons, tNil, tCB, tCall, tMenu, tComp, tDComp, tDGet, iZip2, iEnum, tNoIf, tTru, tJoin, cxOf_K, tLst, tTup, tSl, tPart, tNoPart, tBM, tBM0, tChain, tC, tFor_eq, gTup, gLst, gCons, gNil, gSub, iList, iRng1, iRng2, iRng3, iTup, iZip3, tWhile, tDelS, tBreak, tCont, tRev, tRaise, tCallS, tTry, tAug, tPar, tNever, ipI, List.append_nil])
local macro_rules | `(tactic| walk_at "st") => `(tactic| (walk_at "un"; repeat walk_at "s1"))

def top (i : Nat) : Stmt := PySem.Challenge.pw_lugtrain_k33_numbers_of_any_size.main.body.getD i (.Pass ⟨0, 0, 0, 0⟩)
abbrev s_is_train : Stmt := top 6
theorem sc_is_train : FnScope ["plays"] ["plays"] (defScope s_is_train) := ⟨rfl, rfl, rfl, by decide +kernel, rfl, by decide +kernel, by decide +kernel⟩
theorem bd_is_train (kV doc pm : Value) (an : Option Addr) (cdv ct : Value) (us : List Value) (hl : us.length = (["plays"] : List Str).length) : bindArgs (PySem.W.fnOf "is_train" "is_train" (defArgs s_is_train) (defBody s_is_train) (defScope s_is_train) .none kV doc pm an cdv ct) ⟨us, []⟩ = pure ((["plays"] : List Str).zip us) := match us, hl with | [_], _ => rfl
abbrev s_refuse_no_train : Stmt := top 7
theorem sc_refuse_no_train : FnScope ["plays"] ["plays"] (defScope s_refuse_no_train) := ⟨rfl, rfl, rfl, by decide +kernel, rfl, by decide +kernel, by decide +kernel⟩
theorem bd_refuse_no_train (kV doc pm : Value) (an : Option Addr) (cdv ct : Value) (us : List Value) (hl : us.length = (["plays"] : List Str).length) : bindArgs (PySem.W.fnOf "refuse_no_train" "refuse_no_train" (defArgs s_refuse_no_train) (defBody s_refuse_no_train) (defScope s_refuse_no_train) .none kV doc pm an cdv ct) ⟨us, []⟩ = pure ((["plays"] : List Str).zip us) := match us, hl with | [_], _ => rfl
abbrev s_keeps_plays : Stmt := top 8
theorem sc_keeps_plays : FnScope ["plays", "handle", "wheels", "ahead", "play", "at"] ["plays", "handle", "wheels"] (defScope s_keeps_plays) := ⟨rfl, rfl, rfl, by decide +kernel, rfl, by decide +kernel, by decide +kernel⟩
theorem bd_keeps_plays (kV doc pm : Value) (an : Option Addr) (cdv ct : Value) (us : List Value) (hl : us.length = (["plays", "handle", "wheels"] : List Str).length) : bindArgs (PySem.W.fnOf "keeps_plays" "keeps_plays" (defArgs s_keeps_plays) (defBody s_keeps_plays) (defScope s_keeps_plays) .none kV doc pm an cdv ct) ⟨us, []⟩ = pure ((["plays", "handle", "wheels"] : List Str).zip us) := match us, hl with | [_, _, _], _ => rfl
abbrev s_is_stand : Stmt := top 9
theorem sc_is_stand : FnScope ["plays", "handle", "wheels"] ["plays", "handle", "wheels"] (defScope s_is_stand) := ⟨rfl, rfl, rfl, by decide +kernel, rfl, by decide +kernel, by decide +kernel⟩
theorem bd_is_stand (kV doc pm : Value) (an : Option Addr) (cdv ct : Value) (us : List Value) (hl : us.length = (["plays", "handle", "wheels"] : List Str).length) : bindArgs (PySem.W.fnOf "is_stand" "is_stand" (defArgs s_is_stand) (defBody s_is_stand) (defScope s_is_stand) .none kV doc pm an cdv ct) ⟨us, []⟩ = pure ((["plays", "handle", "wheels"] : List Str).zip us) := match us, hl with | [_, _, _], _ => rfl
abbrev s_refuse_no_stand : Stmt := top 10
theorem sc_refuse_no_stand : FnScope ["plays", "handle", "wheels"] ["plays", "handle", "wheels"] (defScope s_refuse_no_stand) := ⟨rfl, rfl, rfl, by decide +kernel, rfl, by decide +kernel, by decide +kernel⟩
theorem bd_refuse_no_stand (kV doc pm : Value) (an : Option Addr) (cdv ct : Value) (us : List Value) (hl : us.length = (["plays", "handle", "wheels"] : List Str).length) : bindArgs (PySem.W.fnOf "refuse_no_stand" "refuse_no_stand" (defArgs s_refuse_no_stand) (defBody s_refuse_no_stand) (defScope s_refuse_no_stand) .none kV doc pm an cdv ct) ⟨us, []⟩ = pure ((["plays", "handle", "wheels"] : List Str).zip us) := match us, hl with | [_, _, _], _ => rfl
abbrev s_dragged : Stmt := top 11
theorem sc_dragged : FnScope ["play", "ahead", "at"] ["play", "ahead", "at"] (defScope s_dragged) := ⟨rfl, rfl, rfl, by decide +kernel, rfl, by decide +kernel, by decide +kernel⟩
theorem bd_dragged (kV doc pm : Value) (an : Option Addr) (cdv ct : Value) (us : List Value) (hl : us.length = (["play", "ahead", "at"] : List Str).length) : bindArgs (PySem.W.fnOf "dragged" "dragged" (defArgs s_dragged) (defBody s_dragged) (defScope s_dragged) .none kV doc pm an cdv ct) ⟨us, []⟩ = pure ((["play", "ahead", "at"] : List Str).zip us) := match us, hl with | [_, _, _], _ => rfl
abbrev s_all_dragged : Stmt := top 12
theorem sc_all_dragged : FnScope ["plays", "wheels", "place", "places", "ahead", "play", "at"] ["plays", "wheels", "place"] (defScope s_all_dragged) := ⟨rfl, rfl, rfl, by decide +kernel, rfl, by decide +kernel, by decide +kernel⟩
theorem bd_all_dragged (kV doc pm : Value) (an : Option Addr) (cdv ct : Value) (us : List Value) (hl : us.length = (["plays", "wheels", "place"] : List Str).length) : bindArgs (PySem.W.fnOf "all_dragged" "all_dragged" (defArgs s_all_dragged) (defBody s_all_dragged) (defScope s_all_dragged) .none kV doc pm an cdv ct) ⟨us, []⟩ = pure ((["plays", "wheels", "place"] : List Str).zip us) := match us, hl with | [_, _, _], _ => rfl
abbrev s_run_of : Stmt := top 13
theorem sc_run_of : FnScope ["plays", "handle", "wheels", "row", "run", "places", "place"] ["plays", "handle", "wheels", "row"] (defScope s_run_of) := ⟨rfl, rfl, rfl, by decide +kernel, rfl, by decide +kernel, by decide +kernel⟩
theorem bd_run_of (kV doc pm : Value) (an : Option Addr) (cdv ct : Value) (us : List Value) (hl : us.length = (["plays", "handle", "wheels", "row"] : List Str).length) : bindArgs (PySem.W.fnOf "run_of" "run_of" (defArgs s_run_of) (defBody s_run_of) (defScope s_run_of) .none kV doc pm an cdv ct) ⟨us, []⟩ = pure ((["plays", "handle", "wheels", "row"] : List Str).zip us) := match us, hl with | [_, _, _, _], _ => rfl
abbrev s_depths_of : Stmt := top 15
theorem sc_depths_of : FnScope ["plays", "depths", "depth", "play"] ["plays"] (defScope s_depths_of) := ⟨rfl, rfl, rfl, by decide +kernel, rfl, by decide +kernel, by decide +kernel⟩
theorem bd_depths_of (kV doc pm : Value) (an : Option Addr) (cdv ct : Value) (us : List Value) (hl : us.length = (["plays"] : List Str).length) : bindArgs (PySem.W.fnOf "depths_of" "depths_of" (defArgs s_depths_of) (defBody s_depths_of) (defScope s_depths_of) .none kV doc pm an cdv ct) ⟨us, []⟩ = pure ((["plays"] : List Str).zip us) := match us, hl with | [_], _ => rfl
abbrev s_hung_row : Stmt := top 16
theorem sc_hung_row : FnScope ["depth", "at", "row", "places", "place"] ["depth", "at", "row"] (defScope s_hung_row) := ⟨rfl, rfl, rfl, by decide +kernel, rfl, by decide +kernel, by decide +kernel⟩
theorem bd_hung_row (kV doc pm : Value) (an : Option Addr) (cdv ct : Value) (us : List Value) (hl : us.length = (["depth", "at", "row"] : List Str).length) : bindArgs (PySem.W.fnOf "hung_row" "hung_row" (defArgs s_hung_row) (defBody s_hung_row) (defScope s_hung_row) .none kV doc pm an cdv ct) ⟨us, []⟩ = pure ((["depth", "at", "row"] : List Str).zip us) := match us, hl with | [_, _, _], _ => rfl
abbrev s_way_of : Stmt := top 17
theorem sc_way_of : FnScope ["places"] ["places"] (defScope s_way_of) := ⟨rfl, rfl, rfl, by decide +kernel, rfl, by decide +kernel, by decide +kernel⟩
theorem bd_way_of (kV doc pm : Value) (an : Option Addr) (cdv ct : Value) (us : List Value) (hl : us.length = (["places"] : List Str).length) : bindArgs (PySem.W.fnOf "way_of" "way_of" (defArgs s_way_of) (defBody s_way_of) (defScope s_way_of) .none kV doc pm an cdv ct) ⟨us, []⟩ = pure ((["places"] : List Str).zip us) := match us, hl with | [_], _ => rfl
abbrev s_refuse_no_errand : Stmt := top 19
theorem sc_refuse_no_errand : FnScope ["plays", "handle", "wheels", "end", "goal"] ["plays", "handle", "wheels", "end", "goal"] (defScope s_refuse_no_errand) := ⟨rfl, rfl, rfl, by decide +kernel, rfl, by decide +kernel, by decide +kernel⟩
theorem bd_refuse_no_errand (kV doc pm : Value) (an : Option Addr) (cdv ct : Value) (us : List Value) (hl : us.length = (["plays", "handle", "wheels", "end", "goal"] : List Str).length) : bindArgs (PySem.W.fnOf "refuse_no_errand" "refuse_no_errand" (defArgs s_refuse_no_errand) (defBody s_refuse_no_errand) (defScope s_refuse_no_errand) .none kV doc pm an cdv ct) ⟨us, []⟩ = pure ((["plays", "handle", "wheels", "end", "goal"] : List Str).zip us) := match us, hl with | [_, _, _, _, _], _ => rfl
abbrev s_pieces_of : Stmt := top 20
theorem sc_pieces_of : FnScope ["handle", "wheels"] ["handle", "wheels"] (defScope s_pieces_of) := ⟨rfl, rfl, rfl, by decide +kernel, rfl, by decide +kernel, by decide +kernel⟩
theorem bd_pieces_of (kV doc pm : Value) (an : Option Addr) (cdv ct : Value) (us : List Value) (hl : us.length = (["handle", "wheels"] : List Str).length) : bindArgs (PySem.W.fnOf "pieces_of" "pieces_of" (defArgs s_pieces_of) (defBody s_pieces_of) (defScope s_pieces_of) .none kV doc pm an cdv ct) ⟨us, []⟩ = pure ((["handle", "wheels"] : List Str).zip us) := match us, hl with | [_, _], _ => rfl
abbrev s_must_place : Stmt := top 21
theorem sc_must_place : FnScope ["plays", "end", "goal", "must", "wheel", "side"] ["plays", "end", "goal", "must"] (defScope s_must_place) := ⟨rfl, rfl, rfl, by decide +kernel, rfl, by decide +kernel, by decide +kernel⟩
theorem bd_must_place (kV doc pm : Value) (an : Option Addr) (cdv ct : Value) (us : List Value) (hl : us.length = (["plays", "end", "goal", "must"] : List Str).length) : bindArgs (PySem.W.fnOf "must_place" "must_place" (defArgs s_must_place) (defBody s_must_place) (defScope s_must_place) .none kV doc pm an cdv ct) ⟨us, []⟩ = pure ((["plays", "end", "goal", "must"] : List Str).zip us) := match us, hl with | [_, _, _, _], _ => rfl
abbrev s_side_to_go : Stmt := top 22
theorem sc_side_to_go : FnScope ["handle", "wheels", "end", "goal", "wheel", "first", "last"] ["handle", "wheels", "end", "goal", "wheel"] (defScope s_side_to_go) := ⟨rfl, rfl, rfl, by decide +kernel, rfl, by decide +kernel, by decide +kernel⟩
theorem bd_side_to_go (kV doc pm : Value) (an : Option Addr) (cdv ct : Value) (us : List Value) (hl : us.length = (["handle", "wheels", "end", "goal", "wheel"] : List Str).length) : bindArgs (PySem.W.fnOf "side_to_go" "side_to_go" (defArgs s_side_to_go) (defBody s_side_to_go) (defScope s_side_to_go) .none kV doc pm an cdv ct) ⟨us, []⟩ = pure ((["handle", "wheels", "end", "goal", "wheel"] : List Str).zip us) := match us, hl with | [_, _, _, _, _], _ => rfl
abbrev s_is_beyond : Stmt := top 23
theorem sc_is_beyond : FnScope ["plays", "end", "goal", "ahead", "wheel", "depth", "last"] ["plays", "end", "goal", "ahead", "wheel"] (defScope s_is_beyond) := ⟨rfl, rfl, rfl, by decide +kernel, rfl, by decide +kernel, by decide +kernel⟩
theorem bd_is_beyond (kV doc pm : Value) (an : Option Addr) (cdv ct : Value) (us : List Value) (hl : us.length = (["plays", "end", "goal", "ahead", "wheel"] : List Str).length) : bindArgs (PySem.W.fnOf "is_beyond" "is_beyond" (defArgs s_is_beyond) (defBody s_is_beyond) (defScope s_is_beyond) .none kV doc pm an cdv ct) ⟨us, []⟩ = pure ((["plays", "end", "goal", "ahead", "wheel"] : List Str).zip us) := match us, hl with | [_, _, _, _, _], _ => rfl
abbrev s_first_musts : Stmt := top 25
theorem sc_first_musts : FnScope ["handle", "wheels", "end", "goal", "wheel", "side"] ["handle", "wheels", "end", "goal"] (defScope s_first_musts) := ⟨rfl, rfl, rfl, by decide +kernel, rfl, by decide +kernel, by decide +kernel⟩
theorem bd_first_musts (kV doc pm : Value) (an : Option Addr) (cdv ct : Value) (us : List Value) (hl : us.length = (["handle", "wheels", "end", "goal"] : List Str).length) : bindArgs (PySem.W.fnOf "first_musts" "first_musts" (defArgs s_first_musts) (defBody s_first_musts) (defScope s_first_musts) .none kV doc pm an cdv ct) ⟨us, []⟩ = pure ((["handle", "wheels", "end", "goal"] : List Str).zip us) := match us, hl with | [_, _, _, _], _ => rfl
abbrev s_paper_of : Stmt := top 26
theorem sc_paper_of : FnScope ["plays", "handle", "wheels", "end", "goal", "paper", "ahead", "wheel"] ["plays", "handle", "wheels", "end", "goal"] (defScope s_paper_of) := ⟨rfl, rfl, rfl, by decide +kernel, rfl, by decide +kernel, by decide +kernel⟩
theorem bd_paper_of (kV doc pm : Value) (an : Option Addr) (cdv ct : Value) (us : List Value) (hl : us.length = (["plays", "handle", "wheels", "end", "goal"] : List Str).length) : bindArgs (PySem.W.fnOf "paper_of" "paper_of" (defArgs s_paper_of) (defBody s_paper_of) (defScope s_paper_of) .none kV doc pm an cdv ct) ⟨us, []⟩ = pure ((["plays", "handle", "wheels", "end", "goal"] : List Str).zip us) := match us, hl with | [_, _, _, _, _], _ => rfl
abbrev s_least_row : Stmt := top 27
theorem sc_least_row : FnScope ["plays", "handle", "wheels", "end", "goal", "paper"] ["plays", "handle", "wheels", "end", "goal"] (defScope s_least_row) := ⟨rfl, rfl, rfl, by decide +kernel, rfl, by decide +kernel, by decide +kernel⟩
theorem bd_least_row (kV doc pm : Value) (an : Option Addr) (cdv ct : Value) (us : List Value) (hl : us.length = (["plays", "handle", "wheels", "end", "goal"] : List Str).length) : bindArgs (PySem.W.fnOf "least_row" "least_row" (defArgs s_least_row) (defBody s_least_row) (defScope s_least_row) .none kV doc pm an cdv ct) ⟨us, []⟩ = pure ((["plays", "handle", "wheels", "end", "goal"] : List Str).zip us) := match us, hl with | [_, _, _, _, _], _ => rfl
abbrev s_least_of : Stmt := top 28
theorem sc_least_of : FnScope ["plays", "handle", "wheels", "end", "goal"] ["plays", "handle", "wheels", "end", "goal"] (defScope s_least_of) := ⟨rfl, rfl, rfl, by decide +kernel, rfl, by decide +kernel, by decide +kernel⟩
theorem bd_least_of (kV doc pm : Value) (an : Option Addr) (cdv ct : Value) (us : List Value) (hl : us.length = (["plays", "handle", "wheels", "end", "goal"] : List Str).length) : bindArgs (PySem.W.fnOf "least_of" "least_of" (defArgs s_least_of) (defBody s_least_of) (defScope s_least_of) .none kV doc pm an cdv ct) ⟨us, []⟩ = pure ((["plays", "handle", "wheels", "end", "goal"] : List Str).zip us) := match us, hl with | [_, _, _, _, _], _ => rfl
abbrev s_moves_of : Stmt := top 30
theorem sc_moves_of : FnScope ["row", "places", "place"] ["row"] (defScope s_moves_of) := ⟨rfl, rfl, rfl, by decide +kernel, rfl, by decide +kernel, by decide +kernel⟩
theorem bd_moves_of (kV doc pm : Value) (an : Option Addr) (cdv ct : Value) (us : List Value) (hl : us.length = (["row"] : List Str).length) : bindArgs (PySem.W.fnOf "moves_of" "moves_of" (defArgs s_moves_of) (defBody s_moves_of) (defScope s_moves_of) .none kV doc pm an cdv ct) ⟨us, []⟩ = pure ((["row"] : List Str).zip us) := match us, hl with | [_], _ => rfl
abbrev s_turning_of : Stmt := top 31
theorem sc_turning_of : FnScope ["row", "places", "turns"] ["row"] (defScope s_turning_of) := ⟨rfl, rfl, rfl, by decide +kernel, rfl, by decide +kernel, by decide +kernel⟩
theorem bd_turning_of (kV doc pm : Value) (an : Option Addr) (cdv ct : Value) (us : List Value) (hl : us.length = (["row"] : List Str).length) : bindArgs (PySem.W.fnOf "turning_of" "turning_of" (defArgs s_turning_of) (defBody s_turning_of) (defScope s_turning_of) .none kV doc pm an cdv ct) ⟨us, []⟩ = pure ((["row"] : List Str).zip us) := match us, hl with | [_], _ => rfl
abbrev s_standing_of : Stmt := top 32
theorem sc_standing_of : FnScope ["row", "turns", "last_times", "least", "greatest", "at_greatest", "standing", "rest"] ["row"] (defScope s_standing_of) := ⟨rfl, rfl, rfl, by decide +kernel, rfl, by decide +kernel, by decide +kernel⟩
theorem bd_standing_of (kV doc pm : Value) (an : Option Addr) (cdv ct : Value) (us : List Value) (hl : us.length = (["row"] : List Str).length) : bindArgs (PySem.W.fnOf "standing_of" "standing_of" (defArgs s_standing_of) (defBody s_standing_of) (defScope s_standing_of) .none kV doc pm an cdv ct) ⟨us, []⟩ = pure ((["row"] : List Str).zip us) := match us, hl with | [_], _ => rfl
abbrev s_has_swing : Stmt := top 34
theorem sc_has_swing : FnScope ["pile", "lowest", "lower", "upper", "topmost", "width"] ["pile"] (defScope s_has_swing) := ⟨rfl, rfl, rfl, by decide +kernel, rfl, by decide +kernel, by decide +kernel⟩
theorem bd_has_swing (kV doc pm : Value) (an : Option Addr) (cdv ct : Value) (us : List Value) (hl : us.length = (["pile"] : List Str).length) : bindArgs (PySem.W.fnOf "has_swing" "has_swing" (defArgs s_has_swing) (defBody s_has_swing) (defScope s_has_swing) .none kV doc pm an cdv ct) ⟨us, []⟩ = pure ((["pile"] : List Str).zip us) := match us, hl with | [_], _ => rfl
abbrev s_swings_of : Stmt := top 35
theorem sc_swings_of : FnScope ["row", "swings", "pile", "place"] ["row"] (defScope s_swings_of) := ⟨rfl, rfl, rfl, by decide +kernel, rfl, by decide +kernel, by decide +kernel⟩
theorem bd_swings_of (kV doc pm : Value) (an : Option Addr) (cdv ct : Value) (us : List Value) (hl : us.length = (["row"] : List Str).length) : bindArgs (PySem.W.fnOf "swings_of" "swings_of" (defArgs s_swings_of) (defBody s_swings_of) (defScope s_swings_of) .none kV doc pm an cdv ct) ⟨us, []⟩ = pure ((["row"] : List Str).zip us) := match us, hl with | [_], _ => rfl
abbrev s_wheel_way : Stmt := top 36
theorem sc_wheel_way : FnScope ["depth", "at", "row", "swings", "left", "taken_back"] ["depth", "at", "row"] (defScope s_wheel_way) := ⟨rfl, rfl, rfl, by decide +kernel, rfl, by decide +kernel, by decide +kernel⟩
theorem bd_wheel_way (kV doc pm : Value) (an : Option Addr) (cdv ct : Value) (us : List Value) (hl : us.length = (["depth", "at", "row"] : List Str).length) : bindArgs (PySem.W.fnOf "wheel_way" "wheel_way" (defArgs s_wheel_way) (defBody s_wheel_way) (defScope s_wheel_way) .none kV doc pm an cdv ct) ⟨us, []⟩ = pure ((["depth", "at", "row"] : List Str).zip us) := match us, hl with | [_, _, _], _ => rfl
abbrev s_law_draws : Stmt := top 39
theorem sc_law_draws : FnScope ["cell", "many", "base", "found", "rest", "stirred", "k"] ["cell", "many", "base"] (defScope s_law_draws) := ⟨rfl, rfl, rfl, by decide +kernel, rfl, by decide +kernel, by decide +kernel⟩
theorem bd_law_draws (kV doc pm : Value) (an : Option Addr) (cdv ct : Value) (us : List Value) (hl : us.length = (["cell", "many", "base"] : List Str).length) : bindArgs (PySem.W.fnOf "_law_draws" "_law_draws" (defArgs s_law_draws) (defBody s_law_draws) (defScope s_law_draws) .none kV doc pm an cdv ct) ⟨us, []⟩ = pure ((["cell", "many", "base"] : List Str).zip us) := match us, hl with | [_, _, _], _ => rfl
abbrev s_law_case : Stmt := top 40
theorem sc_law_case : FnScope ["cell", "picks", "scale", "many", "plays", "handle", "wheels", "ahead", "k", "play", "off", "span", "row"] ["cell"] (defScope s_law_case) := ⟨rfl, rfl, rfl, by decide +kernel, rfl, by decide +kernel, by decide +kernel⟩
theorem bd_law_case (kV doc pm : Value) (an : Option Addr) (cdv ct : Value) (us : List Value) (hl : us.length = (["cell"] : List Str).length) : bindArgs (PySem.W.fnOf "_law_case" "_law_case" (defArgs s_law_case) (defBody s_law_case) (defScope s_law_case) .none kV doc pm an cdv ct) ⟨us, []⟩ = pure ((["cell"] : List Str).zip us) := match us, hl with | [_], _ => rfl
abbrev s_law_told : Stmt := top 41
theorem sc_law_told : FnScope ["plays", "handle", "wheels", "row", "runs", "goal", "end", "depth", "pairs", "rest", "far", "places"] ["plays", "handle", "wheels", "row"] (defScope s_law_told) := ⟨rfl, rfl, rfl, by decide +kernel, rfl, by decide +kernel, by decide +kernel⟩
theorem bd_law_told (kV doc pm : Value) (an : Option Addr) (cdv ct : Value) (us : List Value) (hl : us.length = (["plays", "handle", "wheels", "row"] : List Str).length) : bindArgs (PySem.W.fnOf "_law_told" "_law_told" (defArgs s_law_told) (defBody s_law_told) (defScope s_law_told) .none kV doc pm an cdv ct) ⟨us, []⟩ = pure ((["plays", "handle", "wheels", "row"] : List Str).zip us) := match us, hl with | [_, _, _, _], _ => rfl
abbrev s_law : Stmt := top 42
theorem sc_law : FnScope ["script", "cells", "cell", "plays", "handle", "wheels", "row", "off", "first", "some", "due", "musts"] ["script"] (defScope s_law) := ⟨rfl, rfl, rfl, by decide +kernel, rfl, by decide +kernel, by decide +kernel⟩
structure Txt (mg : Str → Option Value) : Prop where
  z_abs : mg "abs" = none
  z_enumerate : mg "enumerate" = none
  z_int : mg "int" = none
  z_len : mg "len" = none
  z_max : mg "max" = none
  z_min : mg "min" = none
  z_range : mg "range" = none
  z_sum : mg "sum" = none
  z_zip : mg "zip" = none
  g_MOST_PLAYS : ∃ t, mg "MOST_PLAYS" = some (.int 12 t)
section
variable {P : Program} {w : World} {K : PySem.W.Frag} {mg : Str → Option Value} {base : Heap}
/-- a new list of ints has come -/
structure NewI (H H' : Hp) (l : Addr) (xs : List Int) : Prop where
  fr : H l = none
  sm : Same H H'
  at_ : H' l = some (.lst (iL xs))
theorem NewI.app {H H' : Hp} {l : Addr} {xs : List Int} {x : Int} (N : NewI H H' l xs) : NewI H (upd H' l (.lst (iL xs ++ [V.int x]))) l (xs ++ [x]) :=
  ⟨N.fr, fun b o e => by rw [upd_ne (ne_of_none e N.fr)]; exact N.sm b o e, by rw [upd_same]; simp [iL]⟩
theorem NewI.more {H H' H2 : Hp} {l : Addr} {xs : List Int} (N : NewI H H' l xs) (s : Same H' H2) : NewI H H2 l xs := ⟨N.fr, N.sm.trans s, s _ _ N.at_⟩
def spLaw (K : PySem.W.Frag) : Sp := fun vs H Q _ => ∃ (a : Addr) (ns : List Int), vs = [.ref a] ∧ SqL K H a (ns.map V.int) ∧ ns.length ≤ 63 ∧ ∀ H', Q (.bl true) H'

def spDraws : Sp := fun vs H Q _ => ∃ cell many bas : Int, vs = [.int cell, .int many, .int bas] ∧ 0 ≤ many ∧ many ≤ 5000 ∧ 0 < bas ∧ bas < 1073741824 ∧
  ∀ l H' xs, NewI H H' l xs → (xs.length : Int) = many → (∀ x ∈ xs, 0 ≤ x ∧ x < bas) → Q (.ref l) H'
theorem ok_law_draws (T : Txt mg) (D : Def K mg "_law_draws" s_law_draws) : Callee P w K mg base "_law_draws" 1 spDraws := by
  refine D.ok sc_law_draws bd_law_draws (fun vs H Q E h => ?len) (fun f cdv A outer s H vs Q E hr h => ?body)
  case len => obtain ⟨p, a, x, rfl, _⟩ := h; rfl
  case body =>
    obtain ⟨cell, many, bas, rfl, h1, h2, h3, h4, k⟩ := h
    refine ⟨_, (pss_cons (ps_set (i := 3) sc_law_draws.nd rfl (Or.inl rfl) (pe_lst pa_nil))
 (pss_cons (ps_set (i := 4) sc_law_draws.nd rfl (Or.inl rfl) (pe_op op_mulP (pv 0) (pe_callTy call_intK (by rfl) T.z_int bt_int (pa_cons (pe_cmpR op_ge (pv 0) (pe_powK (r := 1000000000000000000) (by decide)) (nomark _)) pa_nil))))
 (pss_cons (ps_set (i := 5) sc_law_draws.nd rfl (Or.inl rfl) (pe_op op_mod (pv 0) pe_int))
 (pss_cons (ps_for PassesOwn.never rfl (pi_range1 (by rfl) T.z_range (pa_cons (pe_op op_addP (pv 1) pe_int) pa_nil)) (pg_name (i := 6) sc_law_draws.nd rfl (Or.inl rfl))
 (pss_cons (ps_set (i := 5) sc_law_draws.nd rfl (Or.inl rfl) (pe_op op_mod (pe_op op_addP (pe_op op_addP (pe_op op_addP (pe_op op_mulP (pv 5) (pv 5)) (pe_op op_mulP pe_int (pv 5))) (pv 6)) pe_int) pe_int))
 (pss_one (ps_if (PW.pt (pw_and (pt_cmpR op_gt (pv 6) pe_int (nomark _)) (pw_and1 (pt_cmpR op_gt (pv 4) pe_int (nomark _)))))
 (pss_cons (ps_expr (pe_bmK K PySem.F.plainAttrs_list PySem.F.slot_list_append PySem.F.type_list_append mt_append (pv 3) (pa_cons (pe_op op_mod (pv 4) (pv 2)) pa_nil)))
 (pss_one (ps_set (i := 4) sc_law_draws.nd rfl (Or.inl rfl) (pe_op op_fdiv (pv 4) (pv 2)))))
 (pss_one (ps_if (pt_cmpR op_gt (pv 6) pe_int (nomark _))
 (pss_one (ps_expr (pe_bmK K PySem.F.plainAttrs_list PySem.F.slot_list_append PySem.F.type_list_append mt_append (pv 3) (pa_cons (pe_op op_mod (pe_op op_fdiv (pv 5) pe_int) (pv 2)) pa_nil))))
 pss_nil))))))
 (pss_one (ps_ret (pv 3))))))), ?_⟩
    dsimp only [tSeq, tAsg, gName, tOp, tUn, tTest, tB, tAnd, tOr, tNot, tAndV, tOrV, tNotV, tIf, tIfS, tRet, tRetN, tDrop, tNext, tCons, tNil, tCB, tCall, tMenu, tComp, tDComp, tDGet, iZip2, iEnum, tNoIf, tTru, tJoin, cxOf_K, tLst, tTup, tSl, tPart, tNoPart, tBM, tBM0, tChain, tC, tFor_eq, gTup, gLst, gCons, gNil, gSub, iList, iRng1, iRng2, iRng3, iTup, iZip3, tWhile, tDelS, tBreak, tCont, tRev, tRaise, tCallS, tTry, tAug, tPar, tNever, ipI, List.append_nil]
    refine ⟨szl (by decide), fun l hl => ?_⟩
    walk_at "st"
    refine i_mulI (cmul_r ?_ ?_) ?_
    · split <;> decide
    · split <;> decide
    generalize cell * _ = rest
    walk_at "st"
    have hst0 : 0 ≤ cell % 2305843009213693951 := Int.emod_nonneg _ (by decide)
    have hst1 : cell % 2305843009213693951 < 2305843009213693951 := Int.emod_lt_of_pos _ (by decide)
    generalize cell % 2305843009213693951 = stirred at *
    refine ⟨by omega, by omega, lp_range (fun i σ H2 => ∃ (rest stirred : Int) (kk : Option V) (xs : List Int), σ = [some (.int cell), some (.int many), some (.int bas), some (.ref l), some (.int rest), some (.int stirred), kk] ∧
      0 ≤ stirred ∧ stirred < 2305843009213693951 ∧ NewI H H2 l xs ∧ xs.length = i - 3 ∧ ∀ x ∈ xs, 0 ≤ x ∧ x < bas) ?_ ?_ ?_⟩
    · exact ⟨rest, stirred, none, [], rfl, hst0, hst1, ⟨hl, same_upd hl, upd_same⟩, rfl, by simp⟩
    · rintro i σ H2 hi ⟨rest, stirred, kk, xs, rfl, s0, s1, N, hx, hb⟩
      walk_at "st"
      refine i_mulI (cmul_l (by omega) (by omega)) ?_
      walk_at "st"
      refine i_mulI (cmul_l (by decide) (by decide)) ?_
      walk_at "st"
      have hst0 := Int.emod_nonneg (stirred * stirred + 48271 * stirred + (0 + (i : Int)) + 1) (show (2305843009213693951 : Int) ≠ 0 by decide)
      have hst1 := Int.emod_lt_of_pos (stirred * stirred + 48271 * stirred + (0 + (i : Int)) + 1) (show (0 : Int) < 2305843009213693951 by decide)
      generalize (stirred * stirred + 48271 * stirred + (0 + (i : Int)) + 1) % 2305843009213693951 = stirred2 at *
      have app : ∀ v, 3 ≤ i → 0 ≤ v → v < bas → ∀ rest2, ∃ (rest stirred : Int) (kk : Option V) (ys : List Int), [some (V.int cell), some (.int many), some (.int bas), some (.ref l), some (.int rest2), some (.int stirred2), some (V.int (0 + (i : Int)))] = [some (.int cell), some (.int many), some (.int bas), some (.ref l), some (.int rest), some (.int stirred), kk] ∧
        0 ≤ stirred ∧ stirred < 2305843009213693951 ∧ NewI H (upd H2 l (.lst (iL xs ++ [V.int v]))) l ys ∧ ys.length = i + 1 - 3 ∧ ∀ x ∈ ys, 0 ≤ x ∧ x < bas := by
        intro v hi3 hv0 hv1 rest2
        refine ⟨rest2, stirred2, some (V.int (0 + (i : Int))), xs ++ [v], rfl, hst0, hst1, N.app, ?_, ?_⟩
        · simp; omega
        · intro x hxm
          rcases List.mem_append.mp hxm with z | z
          · exact hb x z
          · simp at z; subst z; exact ⟨hv0, hv1⟩
      have lenx : xs.length ≤ 100000 := by omega
      refine i_if (fun g1 => ?_) (fun g1 => ?_)
      · walk_at "st"
        refine i_if (fun g2 => ?_) (fun g2 => ?_)
        · walk_at "st"
          refine ⟨.inl ⟨rfl, _, SqL.of N.at_⟩, ?_⟩
          walk_at "st"
          refine i_app N.at_ (szlt (by simpa [iL] using lenx)) ?_
          walk_at "st"
          exact app _ (by omega) (Int.emod_nonneg _ (by omega)) (Int.emod_lt_of_pos _ h3) _
        · walk_at "st"
          refine i_if (fun g3 => ?_) (fun g3 => absurd g1 g3)
          walk_at "st"
          refine ⟨.inl ⟨rfl, _, SqL.of N.at_⟩, ?_⟩
          walk_at "st"
          refine i_app N.at_ (szlt (by simpa [iL] using lenx)) ?_
          exact app _ (by omega) (Int.emod_nonneg _ (by omega)) (Int.emod_lt_of_pos _ h3) _
      · walk_at "st"
        refine i_if (fun g3 => absurd g3 g1) (fun g3 => ?_)
        exact ⟨rest, stirred2, _, xs, rfl, hst0, hst1, N, by omega, hb⟩
    · rintro σ H2 ⟨rest, stirred, kk, xs, rfl, s0, s1, N, hx, hb⟩
      walk_at "st"
      exact k l H2 xs N (by omega) hb

--SPLIT
def spMoves (K : PySem.W.Frag) : Sp := fun vs H Q _ => ∃ (a : Addr) (row : List Int), vs = [.ref a] ∧ SqL K H a (iL row) ∧ row.length ≤ 50000 ∧ ∀ l H', NewI H H' l (moves row) → Q (.ref l) H'
theorem ifT {b : Bool} {A B : Prop} (e : b = true) (h : A) : if b = true then A else B := by rw [if_pos e]; exact h
theorem ifF {b : Bool} {A B : Prop} (e : b = false) (h : B) : if b = true then A else B := by rw [if_neg (by rw [e]; exact Bool.false_ne_true)]; exact h
theorem ok_moves_of (T : Txt mg) (D : Def K mg "moves_of" s_moves_of) : Callee P w K mg base "moves_of" 1 (spMoves K) := by
  refine D.ok sc_moves_of bd_moves_of (fun vs H Q E h => ?len) (fun f cdv A outer s H vs Q E hr h => ?body)
  case len => obtain ⟨a, row, rfl, _⟩ := h; rfl
  case body =>
    obtain ⟨a, row, rfl, hA, hrow, k⟩ := h
    have hu := hr.units
    refine ⟨_, (pss_cons (ps_set (i := 1) sc_moves_of.nd rfl (Or.inl rfl) (pe_lst pa_nil))
 (pss_cons (ps_for PassesOwn.never rfl (pi_listK K (pv 0)) (pg_name (i := 2) sc_moves_of.nd rfl (Or.inl rfl))
 (pss_one (ps_if (PW.pt (pw_or (pt_not (pt_truthK K (pv 1))) (pw_or1 (pt_cmpR (op_neK K hu) (pv 2) (pe_ix (ix_K K) (pv 1) (pe_negK (r := -1) (by decide)) (by exact fun _ _ => rfl)) (nomark _)))))
 (pss_one (ps_expr (pe_bmK K PySem.F.plainAttrs_list PySem.F.slot_list_append PySem.F.type_list_append mt_append (pv 1) (pa_cons (pv 2) pa_nil))))
 pss_nil)))
 (pss_one (ps_ret (pv 1))))), ?_⟩
    dsimp only [tSeq, tAsg, gName, tOp, tUn, tTest, tB, tAnd, tOr, tNot, tAndV, tOrV, tNotV, tIf, tIfS, tRet, tRetN, tDrop, tNext, tCons, tNil, tCB, tCall, tMenu, tComp, tDComp, tDGet, iZip2, iEnum, tNoIf, tTru, tJoin, cxOf_K, tLst, tTup, tSl, tPart, tNoPart, tBM, tBM0, tChain, tC, tFor_eq, gTup, gLst, gCons, gNil, gSub, iList, iRng1, iRng2, iRng3, iTup, iZip3, tWhile, tDelS, tBreak, tCont, tRev, tRaise, tCallS, tTry, tAug, tPar, tNever, ipI, List.append_nil]
    walk_at "st"
    intro l hl
    walk_at "st"
    have s1 : Same H (upd H l (.lst [])) := same_upd hl
    refine ⟨⟨_, s1.seq hA⟩, lp_ints (ns := row) (fun i σ H2 => ∃ (u : Option V) (dn : List Int), σ = [some (.ref a), some (.ref l), u] ∧ NewI H H2 l dn ∧ dn.length ≤ i ∧ ((dn = [] ∧ i = 0) ∨ ∃ dn' x, dn = dn' ++ [x] ∧ moves row = dn' ++ x :: mvFrom x (row.drop i))) ?_ ?_ ?_ ?_⟩
    · exact ⟨_, [], rfl, ⟨hl, s1, upd_same⟩, Nat.le_refl _, .inl ⟨rfl, rfl⟩⟩
    · rintro i σ H2 _ ⟨u, dn, rfl, N, hdl, _⟩
      exact N.sm.seq hA
    · rintro i x σ H2 hxi ⟨u, dn, rfl, N, hdl, hd⟩
      have hil : i < row.length := (List.getElem?_eq_some_iff.mp hxi).1
      walk_at "st"
      refine i_truL (SqL.of N.at_) ?_
      rcases hd with ⟨rfl, rfl⟩ | ⟨dn', x0, rfl, hm⟩
      · refine ifT (by rfl) ?_
        walk_at "st"
        refine ⟨.inl ⟨rfl, _, SqL.of N.at_⟩, ?_⟩
        walk_at "st"
        refine i_app N.at_ (szlt (by simp [iL])) ?_
        refine ⟨_, [x], rfl, N.app, by simp, .inr ⟨[], x, rfl, ?_⟩⟩
        have e : row = x :: row.drop (0 + 1) := by have := dropc hxi; simpa using this
        rw [e]; simp [moves]
      · refine ifF (by cases dn' <;> rfl) ?_
        walk_at "st"
        refine i_ixLast (xs := iL dn') (v := .int x0) (SqL.of (by rw [N.at_]; simp [iL])) ?_
        walk_at "st"
        rw [dropc hxi] at hm
        refine i_ifn (fun g => ?_) (fun g => ?_)
        · walk_at "st"
          refine ⟨.inl ⟨rfl, _, SqL.of N.at_⟩, ?_⟩
          walk_at "st"
          refine i_app N.at_ (szlt (by simp [iL] at hdl ⊢; omega)) ?_
          refine ⟨_, dn' ++ [x0] ++ [x], rfl, N.app, by simp at hdl ⊢; omega, .inr ⟨dn' ++ [x0], x, rfl, ?_⟩⟩
          rw [hm]; simp only [mvFrom]; rw [if_neg g]; simp
        · refine ⟨_, dn' ++ [x0], rfl, N, by omega, .inr ⟨dn', x0, rfl, ?_⟩⟩
          rw [hm]; simp only [mvFrom]; rw [if_pos g]
    · rintro σ H2 ⟨u, dn, rfl, N, hdl, hd⟩
      walk_at "st"
      have e : dn = moves row := by
        rcases hd with ⟨rfl, e⟩ | ⟨dn', x0, rfl, hm⟩
        · have : row = [] := List.length_eq_zero_iff.mp e
          rw [this]; rfl
        · rw [hm, List.drop_of_length_le (Nat.le_refl _)]; rfl
      rw [e] at N
      exact k l H2 N

def spTurning (K : PySem.W.Frag) : Sp := fun vs H Q _ => ∃ (a : Addr) (row : List Int), vs = [.ref a] ∧ SqL K H a (iL row) ∧ row.length ≤ 50000 ∧ ∀ l H', NewI H H' l (turn (moves row)) → Q (.ref l) H'
theorem moves_len (row : List Int) : (moves row).length ≤ row.length := by
  cases row with
  | nil => simp [moves]
  | cons x r => have := mv_length r x; simp [moves]; omega
theorem last_split : ∀ (xs : List Int) (a : Int), ∃ ini, a :: xs = ini ++ [lastOf a xs]
  | [], a => ⟨[], rfl⟩
  | x :: xs, a => by
    obtain ⟨ini, e⟩ := last_split xs x
    exact ⟨a :: ini, by simp only [lastOf]; rw [List.cons_append, ← e]⟩
theorem ok_turning_of (T : Txt mg) (D : Def K mg "turning_of" s_turning_of) (C_moves_of : Callee P w K mg base "moves_of" 1 (spMoves K)) : Callee P w K mg base "turning_of" 2 (spTurning K) := by
  refine D.ok sc_turning_of bd_turning_of (fun vs H Q E h => ?len) (fun f cdv A outer s H vs Q E hr h => ?body)
  case len => obtain ⟨a, row, rfl, _⟩ := h; rfl
  case body =>
    obtain ⟨a, row, rfl, hA, hrow, k⟩ := h
    have hu := hr.units
    refine ⟨_, (pss_cons (ps_set (i := 1) sc_turning_of.nd rfl (Or.inl rfl) (pe_callN C_moves_of (hr.mono (by decide)) (by rfl) (pa_cons (pv 0) pa_nil)))
 (pss_cons (ps_if (pt_cmpR op_lt (pe_callB (call_lenK K) (by rfl) T.z_len bt_len (pa_cons (pv 1) pa_nil)) pe_int (nomark _))
 (pss_one (ps_ret (pv 1)))
 pss_nil)
 (pss_cons (by exact ps_setC (i := 2) sc_turning_of.nd rfl (Or.inl rfl) (N := ["ahead", "here", "behind"]) (fr := [none, none, none]) ⟨by rfl, by decide +kernel, by decide +kernel, (show ∀ y ∈ (_ : List (Str × NameKind)), y.2 = NameKind.free → (defScope s_turning_of).names.lookup y.1 = some .cell ∨ (defScope s_turning_of).names.lookup y.1 = some .free by decide +kernel), (fr_none (fr_none (fr_none fr_nil)))⟩ (by rfl) (pi_zip3K K (by rfl) T.z_zip (pa_cons (pv 1) (pa_cons (pe_slice (sl_listK K) (pv 1) (po_some pe_int) po_none) (pa_cons (pe_slice (sl_listK K) (pv 1) (po_some pe_int) po_none) pa_nil)))) (fun _ _ _ _ => (pg_tupK K 3 (pgs_cons (pg_name (i := 0) (show List.Nodup (["ahead", "here", "behind"] : List Str) by decide) (by rfl) (by first | exact Or.inl rfl | exact Or.inr rfl)) (pgs_cons (pg_name (i := 1) (show List.Nodup (["ahead", "here", "behind"] : List Str) by decide) (by rfl) (by first | exact Or.inl rfl | exact Or.inr rfl)) (pgs_cons (pg_name (i := 2) (show List.Nodup (["ahead", "here", "behind"] : List Str) by decide) (by rfl) (by first | exact Or.inl rfl | exact Or.inr rfl)) pgs_nil))))) (fun _ _ _ _ => (pifs_one (pt_cmpR (op_eqK K hu) (pe_cmpR op_lt (pv 0) (pv 1) (nomark _)) (pe_cmpR op_lt (pv 2) (pv 1) (nomark _)) (nomark _)))) (fun _ _ _ _ => (pv 1)) (gw_tup (gws_cons (gw_name (by rfl)) (gws_cons (gw_name (by rfl)) (gws_cons (gw_name (by rfl)) gws_nil)))))
 (pss_one (ps_ret (pe_op op_addP (pe_op op_addP (pe_lst (pa_cons (pe_ix (ix_K K) (pv 1) pe_int (by exact fun _ _ => rfl)) pa_nil)) (pv 2)) (pe_lst (pa_cons (pe_ix (ix_K K) (pv 1) (pe_negK (r := -1) (by decide)) (by exact fun _ _ => rfl)) pa_nil)))))))), ?_⟩
    dsimp only [tSeq, tAsg, gName, tOp, tUn, tTest, tB, tAnd, tOr, tNot, tAndV, tOrV, tNotV, tIf, tIfS, tRet, tRetN, tDrop, tNext, tCons, tNil, tCB, tCall, tMenu, tComp, tDComp, tDGet, iZip2, iEnum, tNoIf, tTru, tJoin, cxOf_K, tLst, tTup, tSl, tPart, tNoPart, tBM, tBM0, tChain, tC, tFor_eq, gTup, gLst, gCons, gNil, gSub, iList, iRng1, iRng2, iRng3, iTup, iZip3, tWhile, tDelS, tBreak, tCont, tRev, tRaise, tCallS, tTry, tAug, tPar, tNever, ipI, List.append_nil]
    walk_at "st"
    refine ⟨a, row, rfl, hA, hrow, fun l H1 N => ?_⟩
    have hml := moves_len row
    walk_at "st"
    refine i_lenI (SqL.of N.at_) ?_
    walk_at "st"
    generalize moves row = m at *
    refine i_if (fun g => ?_) (fun g => ?_)
    · walk_at "st"
      have e : turn m = m := by
        match m, g with
        | [], _ => rfl
        | [x], _ => rfl
        | x :: y :: r, g => simp at g; omega
      rw [e] at k
      exact k l H1 N
    · obtain ⟨x0, y0, r, rfl⟩ : ∃ x0 y0 r, m = x0 :: y0 :: r := by
        match m, g with
        | [], g => simp at g
        | [x], g => simp at g
        | x :: y :: r, _ => exact ⟨x, y, r, rfl⟩
      generalize hm : x0 :: y0 :: r = m at *
      have hk : turn m = x0 :: tn x0 y0 r := by rw [← hm]; rfl
      have hml2 : m.length = r.length + 2 := by rw [← hm]; rfl
      walk_at "st"
      refine i_slFrom (SqL.of N.at_) (by decide) (fun p hp => ?_)
      have s2 : Same H1 _ := same_upd (o := .lst (iL (m.drop (1 : Int).toNat))) hp
      have e2 : upd H1 p (.lst (iL (m.drop (1 : Int).toNat))) p = some (.lst (iL (m.drop 1))) := upd_same
      generalize upd H1 p (.lst (iL (m.drop (1 : Int).toNat))) = H2 at *
      walk_at "st"
      refine i_slFrom (SqL.of (s2 _ _ N.at_)) (by decide) (fun p2 hp2 => ?_)
      have s3 : Same H2 _ := same_upd (o := .lst (iL (m.drop (2 : Int).toNat))) hp2
      have e3 : upd H2 p2 (.lst (iL (m.drop (2 : Int).toNat))) p2 = some (.lst (iL (m.drop 2))) := upd_same
      generalize upd H2 p2 (.lst (iL (m.drop (2 : Int).toNat))) = H3 at *
      have N3 := N.more (s2.trans s3)
      have e23 := s3 _ _ e2
      walk_at "st"
      refine ⟨_, _, _, rfl, ⟨_, SqL.of N3.at_⟩, ⟨_, SqL.of e23⟩, ⟨_, SqL.of e3⟩, cp_zip3 (xs := iL m) (ys := iL (m.drop 1)) (ws := iL (m.drop 2)) (fun i zs H4 => ∃ (ds : List Int) (x y : Int), zs = iL ds ∧ ds.length ≤ i ∧ Same H3 H4 ∧ m[i]? = some x ∧ m[i + 1]? = some y ∧ tn x0 y0 r = ds ++ tn x y (m.drop (i + 2))) ⟨[], x0, y0, rfl, Nat.le_refl _, Same.refl _, by rw [← hm]; rfl, by rw [← hm]; rfl, by rw [← hm]; rfl⟩ ?_ (szlt (by simp [iL]; omega)) ?_ ?_⟩
      · rintro i zs H4 ⟨ds, x, y, rfl, hdl, sm, _⟩
        exact ⟨SqL.of (sm _ _ N3.at_), SqL.of (sm _ _ e23), SqL.of (sm _ _ e3), by simp [iL]; omega⟩
      · rintro i x1 y1 z1 t zs H4 hx hy hz ⟨ds, x, y, rfl, hdl, sm, hmx, hmy, htn⟩ ht
        rw [List.getElem?_map] at hx hy hz
        obtain ⟨x2, hx2, rfl⟩ := Option.map_eq_some_iff.mp hx
        obtain ⟨y2, hy2, rfl⟩ := Option.map_eq_some_iff.mp hy
        obtain ⟨z2, hz2, rfl⟩ := Option.map_eq_some_iff.mp hz
        rw [List.getElem?_drop, Nat.add_comm] at hy2 hz2
        rw [hmx] at hx2
        cases hx2
        rw [hmy] at hy2
        cases hy2
        have hnext : tn x y (m.drop (i + 2)) = if decide (x < y) = decide (z2 < y) then y :: tn y z2 (m.drop (i + 1 + 2)) else tn y z2 (m.drop (i + 1 + 2)) := by
          rw [dropc hz2]; rfl
        walk_at "st"
        refine ⟨_, _, rfl, SqT.of upd_same, rfl, _, _, rfl, _, _, rfl, _, _, rfl, rfl, ?_⟩
        walk_at "st"
        refine i_eqB ?_
        walk_at "st"
        refine i_if (fun g2 => ?_) (fun g2 => ?_)
        · walk_at "st"
          rw [if_pos g2] at hnext
          refine ⟨ds ++ [y], y, z2, by simp [iL], by simp; omega, sm.trans (same_upd ht), hmy, hz2, ?_⟩
          rw [htn, hnext]; simp
        · rw [if_neg g2] at hnext
          refine ⟨ds, y, z2, rfl, by omega, sm.trans (same_upd ht), hmy, hz2, ?_⟩
          rw [htn, hnext]
      · rintro lt zs H4 ⟨ds, x, y, rfl, hdl, sm, hmx, hmy, htn⟩ hlt
        have hmin : min (iL m).length (min (iL (m.drop 1)).length (iL (m.drop 2)).length) = r.length := by simp [iL]; omega
        rw [hmin] at hdl hmx hmy htn
        rw [List.drop_of_length_le (by omega)] at htn
        have htn2 : tn x0 y0 r = ds ++ [y] := htn
        have s5 := sm.trans (same_upd (o := .lst (iL ds)) hlt)
        have e5 : upd H4 lt (.lst (iL ds)) lt = some (.lst (iL ds)) := upd_same
        generalize upd H4 lt (.lst (iL ds)) = H5 at *
        have N5 := N3.more s5
        walk_at "st"
        refine i_ixN (SqL.of N5.at_) (by decide) (v := .int x0) (by rw [← hm]; rfl) ?_
        walk_at "st"
        intro g1 hg1
        walk_at "st"
        refine i_addL (a := g1) (b := lt) (xs := [V.int x0]) (ys := iL ds) upd_same (same_upd hg1 _ _ e5) (by simp [iL]; exact szl (by omega)) (fun g2 hg2 => ?_)
        have s6 : Same H5 _ := (same_upd hg1).trans (same_upd (o := .lst ([V.int x0] ++ iL ds)) hg2)
        have e6 : upd (upd H5 g1 (.lst [V.int x0])) g2 (.lst ([V.int x0] ++ iL ds)) g2 = some (.lst (iL (x0 :: ds))) := by rw [upd_same]; rfl
        generalize upd (upd H5 g1 (.lst [V.int x0])) g2 (.lst ([V.int x0] ++ iL ds)) = H6 at *
        have N6 := N5.more s6
        obtain ⟨ini, hini⟩ : ∃ ini, m = ini ++ [y] := by
          obtain ⟨ini, q⟩ := last_split (y0 :: r) x0
          rw [hm] at q
          have hl := congrArg List.length q
          refine ⟨ini, ?_⟩
          have : m[r.length + 1]? = some (lastOf x0 (y0 :: r)) := by
            rw [q]
            have : ini.length = r.length + 1 := by simp at hl; omega
            rw [List.getElem?_append_right (by omega)]; simp [this]
          rw [hmy] at this
          cases this
          exact q
        walk_at "st"
        refine i_ixLast (xs := iL ini) (v := .int y) (SqL.of (by rw [N6.at_, hini]; simp [iL])) ?_
        walk_at "st"
        intro g3 hg3
        refine i_addL (a := g2) (b := g3) (xs := iL (x0 :: ds)) (ys := [V.int y]) (same_upd hg3 _ _ e6) upd_same (by simp [iL]; exact szl (by omega)) (fun g4 hg4 => ?_)
        have S : Same H _ := (N6.sm.trans (same_upd (o := .lst [V.int y]) hg3)).trans (same_upd (o := .lst (iL (x0 :: ds) ++ [V.int y])) hg4)
        rw [hk, htn2] at k
        exact k g4 _ ⟨(N6.sm.trans (same_upd hg3)).free hg4, S, by rw [upd_same]; simp [iL]⟩

theorem ne_kind {H : Hp} {a b : Addr} {o1 o2 : HO} (h1 : H a = some o1) (h2 : H b = some o2) (h : o1 ≠ o2) : a ≠ b := fun z => by
  subst z
  rw [h1] at h2
  exact h (Option.some.inj h2)
--SPLIT
theorem dcp_enum {g : TG} {ti : TT} {tk tv : TE} {σc : St} {H : Hp} {Q : VK} {a : Addr} {xs : List V} (Pv : Nat → List (Key × V) → Hp → Prop) (h0 : Pv 0 [] H) (hl : ∀ i ys H, Pv i ys H → SqL K H a xs ∧ ys.length ≤ i) (hx : xs.length < sizeLine)
    (hs : ∀ i x T ys H, xs[i]? = some x → Pv i ys H → H T = none → g (.ref T) σc (upd H T (.tup [.int i, x])) fun σ2 H2 => ti σ2 H2 fun b H3 => if b = true then tk σ2 H3 fun y H4 => ∃ k : Key, y = kV k ∧ tv σ2 H4 fun v H5 => Pv (i + 1) (putK ys k v) H5 else Pv (i + 1) ys H3)
    (hd : ∀ l ys H, Pv xs.length ys H → H l = none → Q (.ref l) (upd H l (.dK ys))) : DCompI (Ite K a) g ti tk tv σc H Q := by
  refine ⟨fun i m ys H => m = xs.length - i ∧ i ≤ xs.length ∧ Pv i ys H, ⟨_, rfl, Nat.zero_le _, h0⟩, ?_⟩
  rintro i m ys H ⟨rfl, hi, p⟩
  obtain ⟨q1, hy⟩ := hl i ys H p
  refine ⟨by omega, ?_⟩
  by_cases hlt : i < xs.length
  · refine .inr ⟨⟨xs, xs[i], q1, by simp [hlt]⟩, Pv (i + 1), fun σ' H' p' => ⟨_, by omega, rfl, hlt, p'⟩, fun x H' y => ?_⟩
    obtain ⟨T, x1, rfl, hT, rfl, ex⟩ := y
    exact hs i x1 T ys H (ex xs q1) p hT
  · have e : i = xs.length := by omega
    exact .inl ⟨⟨xs, q1, by omega⟩, fun l hl => hd l ys H (by rw [← e]; exact p) hl⟩
/-- of each place its last time -/
def Times (row : List Int) (kvs : List (Key × V)) : Prop := ∀ p ∈ row, ∃ t : Nat, LastT row p t ∧ valV kvs (Sum.inl p : Key) = some (.int t)
theorem times_snoc {row : List Int} {kvs : List (Key × V)} {x : Int} (h : Times row kvs) : Times (row ++ [x]) (putK kvs (Sum.inl x : Key) (.int (row.length : Nat))) := by
  intro p hp
  by_cases e : p = x
  · subst e
    refine ⟨row.length, ⟨by simp, fun k hk => ?_⟩, by rw [valV_put, if_pos rfl]⟩
    rw [List.getElem?_eq_none (by simp; omega)]
    simp
  · have hp2 : p ∈ row := by
      rcases List.mem_append.mp hp with z | z
      · exact z
      · simp at z; exact absurd z e
    obtain ⟨t, ⟨h1, h2⟩, h3⟩ := h p hp2
    have htl : t < row.length := (List.getElem?_eq_some_iff.mp h1).1
    refine ⟨t, ⟨by rw [List.getElem?_append_left htl]; exact h1, fun k hk => ?_⟩, by rw [valV_put, if_neg (fun z => e (Sum.inl.inj z))]; exact h3⟩
    by_cases hkl : k < row.length
    · rw [List.getElem?_append_left hkl]; exact h2 k hk
    · by_cases hk2 : k = row.length
      · subst hk2
        simp
        exact fun z => e z.symm
      · rw [List.getElem?_eq_none (by simp; omega)]
        simp
def spStanding : Sp := fun vs H Q _ => ∃ (a : Addr) (row : List Int), vs = [.ref a] ∧ H a = some (.lst (iL row)) ∧ row.length ≤ 50000 ∧ ∀ l H', NewI H H' l (std row) → Q (.ref l) H'
def StW (H : Hp) (a l1 ld : Addr) (row : List Int) (kvs : List (Key × V)) (mn mx : Int) : Nat → St → Hp → Prop := fun n σ H3 => ∃ (S : List Int) (c : Int) (t : Nat) (b : Bool) (ls : Addr) (u : Option V), σ = [some (.ref a), some (.ref l1), some (.ref ld), some (.int mn), some (.int mx), some (.bl b), some (.ref ls), u] ∧ NewI H H3 ls S ∧ H3 ld = some (.dK kvs) ∧ Gen row S c t b ∧ n = row.length - t
theorem getLast_split : ∀ {xs : List Int}, xs ≠ [] → ∃ ini z, xs = ini ++ [z]
  | [], h => absurd rfl h
  | x :: r, _ => by obtain ⟨ini, e⟩ := last_split r x; exact ⟨ini, _, e⟩
theorem ok_standing_of (T : Txt mg) (D : Def K mg "standing_of" s_standing_of) (C_turning_of : Callee P w K mg base "turning_of" 2 (spTurning K)) : Callee P w K mg base "standing_of" 3 spStanding := by
  refine D.ok sc_standing_of bd_standing_of (fun vs H Q E h => ?len) (fun f cdv A outer s H vs Q E hr h => ?body)
  case len => obtain ⟨a, row, rfl, _⟩ := h; rfl
  case body =>
    obtain ⟨a, row, rfl, hA, hl, k⟩ := h
    have hu := hr.units
    have hu1 := Nat.lt_of_le_of_lt (Nat.add_le_add_left (show 1 ≤ 64 by decide) _) hu
    refine ⟨_, (pss_cons (ps_set (i := 1) sc_standing_of.nd rfl (Or.inl rfl) (pe_callN C_turning_of (hr.mono (by decide)) (by rfl) (pa_cons (pv 0) pa_nil)))
 (pss_cons (ps_if (pt_cmpR op_lt (pe_callB (call_lenK K) (by rfl) T.z_len bt_len (pa_cons (pv 1) pa_nil)) pe_int (nomark _))
 (pss_one (ps_ret (pv 1)))
 pss_nil)
 (pss_cons (by exact ps_setDC (i := 2) sc_standing_of.nd rfl (Or.inl rfl) (N := ["when", "place"]) (fr := [none, none]) ⟨by rfl, by decide +kernel, by decide +kernel, (show ∀ y ∈ (_ : List (Str × NameKind)), y.2 = NameKind.free → (defScope s_standing_of).names.lookup y.1 = some .cell ∨ (defScope s_standing_of).names.lookup y.1 = some .free by decide +kernel), (fr_none (fr_none fr_nil))⟩ (by rfl) (pi_enumerate1K K (by rfl) T.z_enumerate (pa_cons (pv 0) pa_nil)) (fun _ _ _ _ => (pg_tupK K 2 (pgs_cons (pg_name (i := 0) (show List.Nodup (["when", "place"] : List Str) by decide) (by rfl) (by first | exact Or.inl rfl | exact Or.inr rfl)) (pgs_cons (pg_name (i := 1) (show List.Nodup (["when", "place"] : List Str) by decide) (by rfl) (by first | exact Or.inl rfl | exact Or.inr rfl)) pgs_nil)))) (fun _ _ _ _ => pifs_nil) (fun _ _ _ _ => (pv 1)) (fun _ _ _ _ => (pv 0)) (gw_tup (gws_cons (gw_name (by rfl)) (gws_cons (gw_name (by rfl)) gws_nil))))
 (pss_cons (ps_par (i := 3) (j := 4) rfl sc_standing_of.nd rfl rfl (by decide) rfl rfl (pa_cons (pe_callB (call_minK K) (by rfl) T.z_min bt_min (pa_cons (pv 0) pa_nil)) (pa_cons (pe_callB (call_maxK K) (by rfl) T.z_max bt_max (pa_cons (pv 0) pa_nil)) pa_nil)) (by rfl))
 (pss_cons (ps_set (i := 5) sc_standing_of.nd rfl (Or.inl rfl) (pe_cmpR op_lt (pe_dget hu1 (pv 2) (pv 3) (by exact fun _ _ => rfl)) (pe_dget hu1 (pv 2) (pv 4) (by exact fun _ _ => rfl)) (nomark _)))
 (pss_cons (ps_set (i := 6) sc_standing_of.nd rfl (Or.inl rfl) (pe_ifExp (pt_truthK K (pv 5)) (pe_lst (pa_cons (pv 3) (pa_cons (pv 4) pa_nil))) (pe_lst (pa_cons (pv 4) (pa_cons (pv 3) pa_nil)))))
 (pss_cons (ps_while PassesOwn.never (pt_cmpR (op_neK K hu) (pe_ix (ix_K K) (pv 6) (pe_negK (r := -1) (by decide)) (by exact fun _ _ => rfl)) (pe_ix (ix_K K) (pv 0) (pe_negK (r := -1) (by decide)) (by exact fun _ _ => rfl)) (nomark _))
 (pss_cons (ps_set (i := 7) sc_standing_of.nd rfl (Or.inl rfl) (pe_slice (sl_listK K) (pv 0) (po_some (pe_op op_addP (pe_dget hu1 (pv 2) (pe_ix (ix_K K) (pv 6) (pe_negK (r := -1) (by decide)) (by exact fun _ _ => rfl)) (by exact fun _ _ => rfl)) pe_int)) po_none))
 (pss_cons (ps_expr (pe_bmK K PySem.F.plainAttrs_list PySem.F.slot_list_append PySem.F.type_list_append mt_append (pv 6) (pa_cons (pe_ifExp (pt_truthK K (pv 5)) (pe_callB (call_minK K) (by rfl) T.z_min bt_min (pa_cons (pv 7) pa_nil)) (pe_callB (call_maxK K) (by rfl) T.z_max bt_max (pa_cons (pv 7) pa_nil))) pa_nil)))
 (pss_one (ps_set (i := 5) sc_standing_of.nd rfl (Or.inl rfl) (pe_not (pv 5)))))))
 (pss_one (ps_ret (pv 6)))))))))), ?_⟩
    dsimp only [tSeq, tAsg, gName, tOp, tUn, tTest, tB, tAnd, tOr, tNot, tAndV, tOrV, tNotV, tIf, tIfS, tRet, tRetN, tDrop, tNext, tCons, tNil, tCB, tCall, tMenu, tComp, tDComp, tDGet, iZip2, iEnum, tNoIf, tTru, tJoin, cxOf_K, tLst, tTup, tSl, tPart, tNoPart, tBM, tBM0, tChain, tC, tFor_eq, gTup, gLst, gCons, gNil, gSub, iList, iRng1, iRng2, iRng3, iTup, iZip3, tWhile, tDelS, tBreak, tCont, tRev, tRaise, tCallS, tTry, tAug, tPar, tNever, ipI, List.append_nil]
    walk_at "st"
    refine ⟨a, row, rfl, SqL.of hA, hl, fun l1 H1 N1 => ?_⟩
    walk_at "st"
    refine i_lenI (SqL.of N1.at_) ?_
    walk_at "st"
    refine i_if (fun g => ?_) (fun g => ?_)
    · walk_at "st"
      obtain ⟨q1, q2, q3, q4⟩ := std_short (row := row) (by omega)
      exact k l1 H1 ((std_is (row := row) (.inl ⟨rfl, by omega⟩)) ▸ N1)
    obtain ⟨p0, hp0, p1, hp1, hne⟩ := turn_long (row := row) (by omega)
    have hA1 := N1.sm _ _ hA
    have S1 := N1.sm
    have hrp : 0 < row.length := List.length_pos_of_mem hp0
    clear N1 g
    walk_at "st"
    refine ⟨⟨_, hA1⟩, dcp_enum (xs := iL row) (fun i ys H3 => ys.length ≤ i ∧ i ≤ row.length ∧ Times (row.take i) ys ∧ Same H1 H3) ⟨Nat.le_refl _, Nat.zero_le _, by intro p hp; simp at hp, Same.refl _⟩ ?_ (szlt (by simp [iL]; omega)) ?_ ?_⟩
    · rintro i ys H3 ⟨hy, hi, _, sm⟩
      exact ⟨SqL.of (sm _ _ hA1), hy⟩
    · rintro i x t ys H3 hx ⟨hy, hi, hT, sm⟩ ht
      rw [List.getElem?_map] at hx
      obtain ⟨z, hz, rfl⟩ := Option.map_eq_some_iff.mp hx
      have hil : i < row.length := (List.getElem?_eq_some_iff.mp hz).1
      walk_at "st"
      refine ⟨_, _, rfl, SqT.of upd_same, rfl, _, _, rfl, _, _, rfl, rfl, ?_⟩
      walk_at "st"
      refine ⟨Sum.inl z, rfl, ?_⟩
      walk_at "st"
      refine ⟨by have := length_putK ys (Sum.inl z : Key) (V.int (i : Int)); omega, by omega, ?_, sm.trans (same_upd ht)⟩
      rw [take_snoc_get hz]
      have hts := times_snoc (x := z) hT
      rw [List.length_take, Nat.min_eq_left (by omega)] at hts
      exact hts
    rintro ld kvs H3 ⟨_, _, hTm, sm3⟩ hld
    rw [List.take_of_length_le (by simp [iL])] at hTm
    have s4 : Same H1 _ := sm3.trans (same_upd (o := .dK kvs) hld)
    have hD : upd H3 ld (.dK kvs) ld = some (.dK kvs) := upd_same
    have S4 := S1.trans s4
    generalize upd H3 ld (.dK kvs) = H4 at *
    have hA4 := S4 _ _ hA
    clear s4 sm3 S1 hA1 hld
    walk_at "st"
    refine i_minL (SqL.of hA4) hrp (fun mn hmn hmnb => ?_)
    walk_at "st"
    refine i_maxL (SqL.of hA4) hrp (fun mx hmx hmxb => ?_)
    walk_at "st"
    obtain ⟨tm, hlm, hvm⟩ := hTm mn hmn
    obtain ⟨tM, hlM, hvM⟩ := hTm mx hmx
    have hmM : mn ≠ mx := fun z => by
      have a1 := hmnb p0 hp0
      have a2 := hmxb p0 hp0
      have a3 := hmnb p1 hp1
      have a4 := hmxb p1 hp1
      omega
    have tf1 := fun h : tm < tM => Gen.up hlm hlM (fun p hp => ⟨hmnb p hp, hmxb p hp⟩) hmM h
    have tf2 := fun h : ¬ tm < tM => Gen.down hlm hlM (fun p hp => ⟨hmnb p hp, hmxb p hp⟩) hmM h
    refine ⟨_, _, rfl, ?_⟩
    walk_at "st"
    refine ⟨ld, .int tm, rfl, by have q := DGet.k (k := (Sum.inl mn : Key)) hD; rw [hvm] at q; exact q, ?_⟩
    walk_at "st"
    refine ⟨ld, .int tM, rfl, by have q := DGet.k (k := (Sum.inl mx : Key)) hD; rw [hvM] at q; exact q, ?_⟩
    walk_at "st"
    refine i_if (fun g => ?_) (fun g => ?_)
    · walk_at "st"
      intro ls hls
      walk_at "st"
      refine ⟨StW H a l1 ld row kvs mn mx, ⟨_, [mn, mx], mx, tM, true, ls, none, (by rw [decide_eq_true g]; rfl), ⟨S4.free hls, S4.trans (same_upd hls), upd_same⟩, same_upd hls _ _ hD, tf1 (by omega), rfl⟩, ?_⟩
      clear hls tf1 tf2 hlm hlM hvm hvM S4 hA4 hD
      rintro n σ H5 ⟨S, c, t, b, ls, u, rfl, N, hD, hT, rfl⟩
      obtain ⟨ini, hini⟩ := hT.told.en
      obtain ⟨ini2, zl, hrow⟩ := getLast_split (xs := row) (by intro z; rw [z] at hrp; simp at hrp)
      have hA5 := N.sm _ _ hA
      have iS : ∀ {Q' : VK}, Q' (.int c) H5 → rIxP K (.ref ls) (.int (-1)) H5 Q' := fun q => i_ixLast (xs := iL ini) (v := .int c) (SqL.of (by rw [N.at_, hini]; simp [iL])) q
      have htl : t < row.length := (List.getElem?_eq_some_iff.mp hT.told.lt.1).1
      have hzl : row[row.length - 1]? = some zl := by rw [hrow]; simp
      walk_at "st"
      refine iS ?_
      walk_at "st"
      refine i_ixLast (xs := iL ini2) (v := .int zl) (SqL.of (by rw [hA5, hrow]; simp [iL])) ?_
      walk_at "st"
      refine i_ifn (fun g => ?_) (fun g => ?_)
      · have htl2 : t + 1 < row.length := by
          rcases Nat.lt_or_ge (t + 1) row.length with z | z
          · exact z
          · exfalso
            have e := hT.told.lt.1
            rw [show t = row.length - 1 by omega, hzl] at e
            exact g (Option.some.inj e).symm
        obtain ⟨t2, hl2, hv2⟩ := hTm c (List.mem_of_getElem? hT.told.lt.1)
        have et := hl2.uniq hT.told.lt
        subst et
        refine ⟨fun σ' H' => ∃ m', m' < row.length - t2 ∧ StW H a l1 ld row kvs mn mx m' σ' H', fun _ _ z => z, ?_⟩
        walk_at "st"
        refine iS ?_
        walk_at "st"
        refine ⟨ld, .int t2, rfl, by have q := DGet.k (k := (Sum.inl c : Key)) hD; rw [hv2] at q; exact q, ?_⟩
        walk_at "st"
        refine i_slFrom (SqL.of hA5) (by omega) (fun lr hlr => ?_)
        rw [show ((t2 : Int) + 1).toNat = t2 + 1 by omega]
        have s6 : Same H5 _ := same_upd (o := .lst (iL (row.drop (t2 + 1)))) hlr
        have e6 : upd H5 lr (.lst (iL (row.drop (t2 + 1)))) lr = some (.lst (iL (row.drop (t2 + 1)))) := upd_same
        have N6 := N.more s6
        have hD6 := s6 _ _ hD
        generalize upd H5 lr (.lst (iL (row.drop (t2 + 1)))) = H6 at *
        have hrl : 0 < (row.drop (t2 + 1)).length := by simp; omega
        have hSl := hT.told.len
        have nld : ld ≠ ls := ne_kind hD6 N6.at_ (by intro z; cases z)
        walk_at "st"
        refine ⟨.inl ⟨rfl, _, SqL.of N6.at_⟩, ?_⟩
        cases b with
        | true =>
          walk_at "st"
          refine i_minL (SqL.of e6) hrl (fun d hd hdb => ?_)
          obtain ⟨u2, hlu, _⟩ := hTm d (List.mem_of_mem_drop hd)
          have hlt := (told_next hT.told hd hlu (fun p hp => by simpa using hdb p hp)).1
          have hT2 := Gen.next hT hd hlu (fun p hp => by simpa using hdb p hp)
          have hul : u2 < row.length := (List.getElem?_eq_some_iff.mp hlu.1).1
          walk_at "st"
          refine i_app N6.at_ (szlt (by simp [iL]; omega)) ?_
          walk_at "st"
          exact ⟨row.length - u2, by omega, S ++ [d], d, u2, false, ls, _, rfl, N6.app, by rw [upd_ne nld]; exact hD6, hT2, rfl⟩
        | false =>
          walk_at "st"
          refine i_maxL (SqL.of e6) hrl (fun d hd hdb => ?_)
          obtain ⟨u2, hlu, _⟩ := hTm d (List.mem_of_mem_drop hd)
          have hlt := (told_next hT.told hd hlu (fun p hp => by simpa using hdb p hp)).1
          have hT2 := Gen.next hT hd hlu (fun p hp => by simpa using hdb p hp)
          have hul : u2 < row.length := (List.getElem?_eq_some_iff.mp hlu.1).1
          walk_at "st"
          refine i_app N6.at_ (szlt (by simp [iL]; omega)) ?_
          walk_at "st"
          exact ⟨row.length - u2, by omega, S ++ [d], d, u2, true, ls, _, rfl, N6.app, by rw [upd_ne nld]; exact hD6, hT2, rfl⟩
      · subst g
        have et : t = row.length - 1 := by
          rcases Nat.lt_or_ge t (row.length - 1) with z | z
          · exact absurd hzl (hT.told.lt.2 _ z)
          · omega
        walk_at "st"
        exact k ls H5 ((std_is (row := row) (.inr ⟨_, t, b, hT, by omega⟩)) ▸ N)
    · walk_at "st"
      intro ls hls
      walk_at "st"
      refine ⟨StW H a l1 ld row kvs mn mx, ⟨_, [mx, mn], mn, tm, false, ls, none, (by rw [decide_eq_false g]; rfl), ⟨S4.free hls, S4.trans (same_upd hls), upd_same⟩, same_upd hls _ _ hD, tf2 (by omega), rfl⟩, ?_⟩
      clear hls tf1 tf2 hlm hlM hvm hvM S4 hA4 hD
      rintro n σ H5 ⟨S, c, t, b, ls, u, rfl, N, hD, hT, rfl⟩
      obtain ⟨ini, hini⟩ := hT.told.en
      obtain ⟨ini2, zl, hrow⟩ := getLast_split (xs := row) (by intro z; rw [z] at hrp; simp at hrp)
      have hA5 := N.sm _ _ hA
      have iS : ∀ {Q' : VK}, Q' (.int c) H5 → rIxP K (.ref ls) (.int (-1)) H5 Q' := fun q => i_ixLast (xs := iL ini) (v := .int c) (SqL.of (by rw [N.at_, hini]; simp [iL])) q
      have htl : t < row.length := (List.getElem?_eq_some_iff.mp hT.told.lt.1).1
      have hzl : row[row.length - 1]? = some zl := by rw [hrow]; simp
      walk_at "st"
      refine iS ?_
      walk_at "st"
      refine i_ixLast (xs := iL ini2) (v := .int zl) (SqL.of (by rw [hA5, hrow]; simp [iL])) ?_
      walk_at "st"
      refine i_ifn (fun g => ?_) (fun g => ?_)
      · have htl2 : t + 1 < row.length := by
          rcases Nat.lt_or_ge (t + 1) row.length with z | z
          · exact z
          · exfalso
            have e := hT.told.lt.1
            rw [show t = row.length - 1 by omega, hzl] at e
            exact g (Option.some.inj e).symm
        obtain ⟨t2, hl2, hv2⟩ := hTm c (List.mem_of_getElem? hT.told.lt.1)
        have et := hl2.uniq hT.told.lt
        subst et
        refine ⟨fun σ' H' => ∃ m', m' < row.length - t2 ∧ StW H a l1 ld row kvs mn mx m' σ' H', fun _ _ z => z, ?_⟩
        walk_at "st"
        refine iS ?_
        walk_at "st"
        refine ⟨ld, .int t2, rfl, by have q := DGet.k (k := (Sum.inl c : Key)) hD; rw [hv2] at q; exact q, ?_⟩
        walk_at "st"
        refine i_slFrom (SqL.of hA5) (by omega) (fun lr hlr => ?_)
        rw [show ((t2 : Int) + 1).toNat = t2 + 1 by omega]
        have s6 : Same H5 _ := same_upd (o := .lst (iL (row.drop (t2 + 1)))) hlr
        have e6 : upd H5 lr (.lst (iL (row.drop (t2 + 1)))) lr = some (.lst (iL (row.drop (t2 + 1)))) := upd_same
        have N6 := N.more s6
        have hD6 := s6 _ _ hD
        generalize upd H5 lr (.lst (iL (row.drop (t2 + 1)))) = H6 at *
        have hrl : 0 < (row.drop (t2 + 1)).length := by simp; omega
        have hSl := hT.told.len
        have nld : ld ≠ ls := ne_kind hD6 N6.at_ (by intro z; cases z)
        walk_at "st"
        refine ⟨.inl ⟨rfl, _, SqL.of N6.at_⟩, ?_⟩
        cases b with
        | true =>
          walk_at "st"
          refine i_minL (SqL.of e6) hrl (fun d hd hdb => ?_)
          obtain ⟨u2, hlu, _⟩ := hTm d (List.mem_of_mem_drop hd)
          have hlt := (told_next hT.told hd hlu (fun p hp => by simpa using hdb p hp)).1
          have hT2 := Gen.next hT hd hlu (fun p hp => by simpa using hdb p hp)
          have hul : u2 < row.length := (List.getElem?_eq_some_iff.mp hlu.1).1
          walk_at "st"
          refine i_app N6.at_ (szlt (by simp [iL]; omega)) ?_
          walk_at "st"
          exact ⟨row.length - u2, by omega, S ++ [d], d, u2, false, ls, _, rfl, N6.app, by rw [upd_ne nld]; exact hD6, hT2, rfl⟩
        | false =>
          walk_at "st"
          refine i_maxL (SqL.of e6) hrl (fun d hd hdb => ?_)
          obtain ⟨u2, hlu, _⟩ := hTm d (List.mem_of_mem_drop hd)
          have hlt := (told_next hT.told hd hlu (fun p hp => by simpa using hdb p hp)).1
          have hT2 := Gen.next hT hd hlu (fun p hp => by simpa using hdb p hp)
          have hul : u2 < row.length := (List.getElem?_eq_some_iff.mp hlu.1).1
          walk_at "st"
          refine i_app N6.at_ (szlt (by simp [iL]; omega)) ?_
          walk_at "st"
          exact ⟨row.length - u2, by omega, S ++ [d], d, u2, true, ls, _, rfl, N6.app, by rw [upd_ne nld]; exact hD6, hT2, rfl⟩
      · subst g
        have et : t = row.length - 1 := by
          rcases Nat.lt_or_ge t (row.length - 1) with z | z
          · exact absurd hzl (hT.told.lt.2 _ z)
          · omega
        walk_at "st"
        exact k ls H5 ((std_is (row := row) (.inr ⟨_, t, b, hT, by omega⟩)) ▸ N)

--SPLIT
def spIsTrain (K : PySem.W.Frag) : Sp := fun vs H Q _ => ∃ (a : Addr) (ps : List Int), vs = [.ref a] ∧ SqL K H a (iL ps) ∧ ∀ b : Bool, (b = true ↔ isTr ps) → Q (.bl b) H
theorem ok_is_train (T : Txt mg) (D : Def K mg "is_train" s_is_train) : Callee P w K mg base "is_train" 1 (spIsTrain K) := by
  refine D.ok sc_is_train bd_is_train (fun vs H Q E h => ?len) (fun f cdv A outer s H vs Q E hr h => ?body)
  case len => obtain ⟨a, ps, rfl, _⟩ := h; rfl
  case body =>
    obtain ⟨a, ps, rfl, hS, k⟩ := h
    refine ⟨_, (pss_one (ps_ret (pe_and (pe_chain op_le op_le pe_int (pe_callB (call_lenK K) (by rfl) T.z_len bt_len (pa_cons (pv 0) pa_nil)) (pe_globI T.g_MOST_PLAYS (by rfl))) (pe_one (pe_cmpR op_ge (pe_callB (call_minK K) (by rfl) T.z_min bt_min (pa_cons (pv 0) pa_nil)) pe_int (nomark _)))))), ?_⟩
    dsimp only [tSeq, tAsg, gName, tOp, tUn, tTest, tB, tAnd, tOr, tNot, tAndV, tOrV, tNotV, tIf, tIfS, tRet, tRetN, tDrop, tNext, tCons, tNil, tCB, tCall, tMenu, tComp, tDComp, tDGet, iZip2, iEnum, tNoIf, tTru, tJoin, cxOf_K, tLst, tTup, tSl, tPart, tNoPart, tBM, tBM0, tChain, tC, tFor_eq, gTup, gLst, gCons, gNil, gSub, iList, iRng1, iRng2, iRng3, iTup, iZip3, tWhile, tDelS, tBreak, tCont, tRev, tRaise, tCallS, tTry, tAug, tPar, tNever, ipI, List.append_nil]
    walk_at "st"
    refine i_lenI hS ?_
    walk_at "st"
    refine i_if (fun g1 => ?_) (fun g1 => ?_)
    · walk_at "st"
      refine i_if (fun g2 => ?_) (fun g2 => ?_)
      · walk_at "st"
        refine i_minL hS (by omega) (fun m hm hle => ?_)
        walk_at "st"
        refine k _ ⟨fun z => ⟨by omega, by omega, fun p hp => ?_⟩, fun z => ?_⟩
        · have := hle p hp
          have := of_decide_eq_true z
          omega
        · exact decide_eq_true (z.2.2 m hm)
      · exact k _ ⟨fun z => (Bool.noConfusion z), fun z => absurd z.2.1 (by omega)⟩
    · walk_at "st"
      exact k _ ⟨fun z => (Bool.noConfusion z), fun z => absurd z.1 (by omega)⟩

def spRefTrain (K : PySem.W.Frag) : Sp := fun vs H Q _ => ∃ (a : Addr) (ps : List Int), vs = [.ref a] ∧ SqL K H a (iL ps) ∧ isTr ps ∧ Q .non H
theorem ok_refuse_no_train (T : Txt mg) (D : Def K mg "refuse_no_train" s_refuse_no_train) (C_is_train : Callee P w K mg base "is_train" 1 (spIsTrain K)) : Callee P w K mg base "refuse_no_train" 2 (spRefTrain K) := by
  refine D.ok sc_refuse_no_train bd_refuse_no_train (fun vs H Q E h => ?len) (fun f cdv A outer s H vs Q E hr h => ?body)
  case len => obtain ⟨a, ps, rfl, _⟩ := h; rfl
  case body =>
    obtain ⟨a, ps, rfl, hS, ht, k⟩ := h
    refine ⟨_, (pss_one (ps_if (pt_not (pt_truthK K (pe_callN C_is_train (hr.mono (by decide)) (by rfl) (pa_cons (pv 0) pa_nil))))
 (pss_one ps_never)
 pss_nil)), ?_⟩
    dsimp only [tSeq, tAsg, gName, tOp, tUn, tTest, tB, tAnd, tOr, tNot, tAndV, tOrV, tNotV, tIf, tIfS, tRet, tRetN, tDrop, tNext, tCons, tNil, tCB, tCall, tMenu, tComp, tDComp, tDGet, iZip2, iEnum, tNoIf, tTru, tJoin, cxOf_K, tLst, tTup, tSl, tPart, tNoPart, tBM, tBM0, tChain, tC, tFor_eq, gTup, gLst, gCons, gNil, gSub, iList, iRng1, iRng2, iRng3, iTup, iZip3, tWhile, tDelS, tBreak, tCont, tRev, tRaise, tCallS, tTry, tAug, tPar, tNever, ipI, List.append_nil]
    walk_at "st"
    refine ⟨a, ps, rfl, hS, fun b hb => ?_⟩
    cases hb.mpr ht
    walk_at "st"
    exact k

def spKeeps (K : PySem.W.Frag) : Sp := fun vs H Q _ => ∃ (a b : Addr) (ps xs : List Int) (hd : Int), vs = [.ref a, .int hd, .ref b] ∧ SqL K H a (iL ps) ∧ SqL K H b (iL xs) ∧ ∀ (r : Bool) H', (r = true ↔ keeps ps hd xs) → Same H H' → Q (.bl r) H'
theorem keeps_end {ps xs : List Int} {a : Int} : keeps (ps.drop (min ps.length xs.length)) a (xs.drop (min ps.length xs.length)) := by
  by_cases h : ps.length ≤ xs.length
  · rw [Nat.min_eq_left h, List.drop_of_length_le (Nat.le_refl _)]; trivial
  · rw [Nat.min_eq_right (by omega), List.drop_of_length_le (l := xs) (Nat.le_refl _)]
    cases ps.drop xs.length <;> trivial
theorem ok_keeps_plays (T : Txt mg) (D : Def K mg "keeps_plays" s_keeps_plays) : Callee P w K mg base "keeps_plays" 1 (spKeeps K) := by
  refine D.ok sc_keeps_plays bd_keeps_plays (fun vs H Q E h => ?len) (fun f cdv A outer s H vs Q E hr h => ?body)
  case len => obtain ⟨a, b, ps, xs, hd, rfl, _⟩ := h; rfl
  case body =>
    obtain ⟨a, b, ps, xs, hd, rfl, hA, hB, k⟩ := h
    refine ⟨_, (pss_cons (ps_set (i := 3) sc_keeps_plays.nd rfl (Or.inl rfl) (pv 1))
 (pss_cons (ps_for PassesOwn.never rfl (pi_zip2K K (by rfl) T.z_zip (pa_cons (pv 0) (pa_cons (pv 2) pa_nil))) (pg_tupK K 2 (pgs_cons (pg_name (i := 4) sc_keeps_plays.nd rfl (Or.inl rfl)) (pgs_cons (pg_name (i := 5) sc_keeps_plays.nd rfl (Or.inl rfl)) pgs_nil)))
 (pss_cons (ps_if (pt_cmpR op_gt (pe_callB call_absK (by rfl) T.z_abs bt_abs (pa_cons (pe_op op_sub (pv 5) (pv 3)) pa_nil)) (pv 4) (nomark _))
 (pss_one (ps_ret pe_bl))
 pss_nil)
 (pss_one (ps_set (i := 3) sc_keeps_plays.nd rfl (Or.inl rfl) (pv 5)))))
 (pss_one (ps_ret pe_bl)))), ?_⟩
    dsimp only [tSeq, tAsg, gName, tOp, tUn, tTest, tB, tAnd, tOr, tNot, tAndV, tOrV, tNotV, tIf, tIfS, tRet, tRetN, tDrop, tNext, tCons, tNil, tCB, tCall, tMenu, tComp, tDComp, tDGet, iZip2, iEnum, tNoIf, tTru, tJoin, cxOf_K, tLst, tTup, tSl, tPart, tNoPart, tBM, tBM0, tChain, tC, tFor_eq, gTup, gLst, gCons, gNil, gSub, iList, iRng1, iRng2, iRng3, iTup, iZip3, tWhile, tDelS, tBreak, tCont, tRev, tRaise, tCallS, tTry, tAug, tPar, tNever, ipI, List.append_nil]
    walk_at "st"
    refine ⟨_, _, rfl, ⟨_, hA⟩, ⟨_, hB⟩, lp_zip (xs := iL ps) (ys := iL xs) (fun i σ H2 => ∃ (ah : Int) (u v : Option V), σ = [some (.ref a), some (.int hd), some (.ref b), some (.int ah), u, v] ∧ Same H H2 ∧ (keeps ps hd xs ↔ keeps (ps.drop i) ah (xs.drop i))) ?_ ?_ ?_ ?_⟩
    · exact ⟨hd, _, _, rfl, Same.refl _, Iff.rfl⟩
    · rintro i σ H2 ⟨ah, u, v, rfl, sm, hk⟩
      exact ⟨sm.seq hA, sm.seq hB⟩
    · rintro i x y t σ H2 hx hy ⟨ah, u, v, rfl, sm, hk⟩ ht
      rw [List.getElem?_map] at hx hy
      obtain ⟨p, hp, rfl⟩ := Option.map_eq_some_iff.mp hx
      obtain ⟨q, hq, rfl⟩ := Option.map_eq_some_iff.mp hy
      walk_at "st"
      refine ⟨_, _, rfl, SqT.of upd_same, rfl, _, _, rfl, _, _, rfl, rfl, ?_⟩
      walk_at "st"
      rw [dropc hp, dropc hq] at hk
      refine i_if (fun g => ?_) (fun g => ?_)
      · walk_at "st"
        refine k _ _ ⟨fun z => (Bool.noConfusion z), fun z => ?_⟩ (sm.trans (same_upd ht))
        have := (hk.mp z).1
        split at g <;> omega
      · walk_at "st"
        refine ⟨q, _, _, rfl, sm.trans (same_upd ht), hk.trans ⟨fun z => z.2, fun z => ⟨?_, z⟩⟩⟩
        split at g <;> omega
    · rintro σ H2 ⟨ah, u, v, rfl, sm, hk⟩
      walk_at "st"
      refine k _ _ ⟨fun _ => hk.mpr ?_, fun _ => rfl⟩ sm
      simp only [iL, List.length_map]
      exact keeps_end

def spIsStand (K : PySem.W.Frag) : Sp := fun vs H Q _ => ∃ (a b : Addr) (ps xs : List Int) (hd : Int), vs = [.ref a, .int hd, .ref b] ∧ SqL K H a (iL ps) ∧ SqL K H b (iL xs) ∧ isTr ps ∧ ∀ (r : Bool) H', (r = true ↔ stand ps hd xs) → Same H H' → Q (.bl r) H'
theorem ok_is_stand (T : Txt mg) (D : Def K mg "is_stand" s_is_stand) (C_refuse_no_train : Callee P w K mg base "refuse_no_train" 2 (spRefTrain K)) (C_keeps_plays : Callee P w K mg base "keeps_plays" 1 (spKeeps K)) : Callee P w K mg base "is_stand" 3 (spIsStand K) := by
  refine D.ok sc_is_stand bd_is_stand (fun vs H Q E h => ?len) (fun f cdv A outer s H vs Q E hr h => ?body)
  case len => obtain ⟨a, b, ps, xs, hd, rfl, _⟩ := h; rfl
  case body =>
    obtain ⟨a, b, ps, xs, hd, rfl, hA, hB, ht, k⟩ := h
    have hu := hr.units
    refine ⟨_, (pss_cons (ps_expr (pe_callN C_refuse_no_train (hr.mono (by decide)) (by rfl) (pa_cons (pv 0) pa_nil)))
 (pss_one (ps_ret (pe_and (pe_cmpR (op_eqK K hu) (pe_callB (call_lenK K) (by rfl) T.z_len bt_len (pa_cons (pv 2) pa_nil)) (pe_callB (call_lenK K) (by rfl) T.z_len bt_len (pa_cons (pv 0) pa_nil)) (nomark _)) (pe_one (pe_callN C_keeps_plays (hr.mono (by decide)) (by rfl) (pa_cons (pv 0) (pa_cons (pv 1) (pa_cons (pv 2) pa_nil))))))))), ?_⟩
    dsimp only [tSeq, tAsg, gName, tOp, tUn, tTest, tB, tAnd, tOr, tNot, tAndV, tOrV, tNotV, tIf, tIfS, tRet, tRetN, tDrop, tNext, tCons, tNil, tCB, tCall, tMenu, tComp, tDComp, tDGet, iZip2, iEnum, tNoIf, tTru, tJoin, cxOf_K, tLst, tTup, tSl, tPart, tNoPart, tBM, tBM0, tChain, tC, tFor_eq, gTup, gLst, gCons, gNil, gSub, iList, iRng1, iRng2, iRng3, iTup, iZip3, tWhile, tDelS, tBreak, tCont, tRev, tRaise, tCallS, tTry, tAug, tPar, tNever, ipI, List.append_nil]
    walk_at "st"
    refine ⟨a, ps, rfl, hA, ht, ?_⟩
    walk_at "st"
    refine i_lenI hB ?_
    walk_at "st"
    refine i_lenI hA ?_
    walk_at "st"
    refine i_if (fun g => ?_) (fun g => ?_)
    · walk_at "st"
      exact ⟨a, b, ps, xs, hd, rfl, hA, hB, fun r H' hr' sm => k r H' (hr'.trans ⟨fun z => ⟨by omega, z⟩, fun z => z.2⟩) sm⟩
    · exact k _ _ ⟨fun z => (Bool.noConfusion z), fun z => absurd z.1 (by omega)⟩ (Same.refl _)

def spRefStand (K : PySem.W.Frag) : Sp := fun vs H Q _ => ∃ (a b : Addr) (ps xs : List Int) (hd : Int), vs = [.ref a, .int hd, .ref b] ∧ SqL K H a (iL ps) ∧ SqL K H b (iL xs) ∧ isTr ps ∧ stand ps hd xs ∧ ∀ H', Same H H' → Q .non H'
theorem ok_refuse_no_stand (T : Txt mg) (D : Def K mg "refuse_no_stand" s_refuse_no_stand) (C_is_stand : Callee P w K mg base "is_stand" 3 (spIsStand K)) : Callee P w K mg base "refuse_no_stand" 4 (spRefStand K) := by
  refine D.ok sc_refuse_no_stand bd_refuse_no_stand (fun vs H Q E h => ?len) (fun f cdv A outer s H vs Q E hr h => ?body)
  case len => obtain ⟨a, b, ps, xs, hd, rfl, _⟩ := h; rfl
  case body =>
    obtain ⟨a, b, ps, xs, hd, rfl, hA, hB, ht, hs, k⟩ := h
    refine ⟨_, (pss_one (ps_if (pt_not (pt_truthK K (pe_callN C_is_stand (hr.mono (by decide)) (by rfl) (pa_cons (pv 0) (pa_cons (pv 1) (pa_cons (pv 2) pa_nil))))))
 (pss_one ps_never)
 pss_nil)), ?_⟩
    dsimp only [tSeq, tAsg, gName, tOp, tUn, tTest, tB, tAnd, tOr, tNot, tAndV, tOrV, tNotV, tIf, tIfS, tRet, tRetN, tDrop, tNext, tCons, tNil, tCB, tCall, tMenu, tComp, tDComp, tDGet, iZip2, iEnum, tNoIf, tTru, tJoin, cxOf_K, tLst, tTup, tSl, tPart, tNoPart, tBM, tBM0, tChain, tC, tFor_eq, gTup, gLst, gCons, gNil, gSub, iList, iRng1, iRng2, iRng3, iTup, iZip3, tWhile, tDelS, tBreak, tCont, tRev, tRaise, tCallS, tTry, tAug, tPar, tNever, ipI, List.append_nil]
    walk_at "st"
    refine ⟨a, b, ps, xs, hd, rfl, hA, hB, ht, fun r H' hr' sm => ?_⟩
    cases hr'.mpr hs
    walk_at "st"
    exact k H' sm

def spDragged : Sp := fun vs H Q _ => ∃ p a x, vs = [.int p, .int a, .int x] ∧ Q (.int (drag p a x)) H
theorem ok_dragged (T : Txt mg) (D : Def K mg "dragged" s_dragged) : Callee P w K mg base "dragged" 1 spDragged := by
  refine D.ok sc_dragged bd_dragged (fun vs H Q E h => ?len) (fun f cdv A outer s H vs Q E hr h => ?body)
  case len => obtain ⟨p, a, x, rfl, _⟩ := h; rfl
  case body =>
    obtain ⟨p, a, x, rfl, k⟩ := h
    unfold drag at k
    refine ⟨_, (pss_cons (ps_if (pt_cmpR op_lt (pv 2) (pe_op op_sub (pv 1) (pv 0)) (nomark _))
 (pss_one (ps_ret (pe_op op_sub (pv 1) (pv 0))))
 pss_nil)
 (pss_cons (ps_if (pt_cmpR op_gt (pv 2) (pe_op op_addP (pv 1) (pv 0)) (nomark _))
 (pss_one (ps_ret (pe_op op_addP (pv 1) (pv 0))))
 pss_nil)
 (pss_one (ps_ret (pv 2))))), ?_⟩
    dsimp only [tSeq, tAsg, gName, tOp, tUn, tTest, tB, tAnd, tOr, tNot, tAndV, tOrV, tNotV, tIf, tIfS, tRet, tRetN, tDrop, tNext, tCons, tNil, tCB, tCall, tMenu, tComp, tDComp, tDGet, iZip2, iEnum, tNoIf, tTru, tJoin, cxOf_K, tLst, tTup, tSl, tPart, tNoPart, tBM, tBM0, tChain, tC, tFor_eq, gTup, gLst, gCons, gNil, gSub, iList, iRng1, iRng2, iRng3, iTup, iZip3, tWhile, tDelS, tBreak, tCont, tRev, tRaise, tCallS, tTry, tAug, tPar, tNever, ipI, List.append_nil]
    walk_at "st"
    refine i_if (fun h1 => ?_) (fun h1 => ?_)
    · walk_at "st"
      rw [if_pos h1] at k; exact k
    · walk_at "st"
      rw [if_neg h1] at k
      refine i_if (fun h2 => ?_) (fun h2 => ?_)
      · walk_at "st"
        rw [if_pos h2] at k; exact k
      · walk_at "st"
        rw [if_neg h2] at k; exact k

def spAllDr (K : PySem.W.Frag) : Sp := fun vs H Q _ => ∃ (a b : Addr) (ps xs : List Int) (c : Int), vs = [.ref a, .ref b, .int c] ∧ SqL K H a (iL ps) ∧ SqL K H b (iL xs) ∧ ps.length ≤ 12 ∧ (∀ p ∈ ps, 0 ≤ p) ∧ ∀ l H', NewI H H' l (dragAll ps xs c) → Q (.ref l) H'
theorem ok_all_dragged (T : Txt mg) (D : Def K mg "all_dragged" s_all_dragged) (C_dragged : Callee P w K mg base "dragged" 1 spDragged) : Callee P w K mg base "all_dragged" 2 (spAllDr K) := by
  refine D.ok sc_all_dragged bd_all_dragged (fun vs H Q E h => ?len) (fun f cdv A outer s H vs Q E hr h => ?body)
  case len => obtain ⟨a, b, ps, xs, c, rfl, _⟩ := h; rfl
  case body =>
    obtain ⟨a, b, ps, xs, c, rfl, hA, hB, h12, hp0, k⟩ := h
    refine ⟨_, (pss_cons (ps_set (i := 3) sc_all_dragged.nd rfl (Or.inl rfl) (pe_lst pa_nil))
 (pss_cons (ps_set (i := 4) sc_all_dragged.nd rfl (Or.inl rfl) (pv 2))
 (pss_cons (ps_for PassesOwn.never rfl (pi_zip2K K (by rfl) T.z_zip (pa_cons (pv 0) (pa_cons (pv 1) pa_nil))) (pg_tupK K 2 (pgs_cons (pg_name (i := 5) sc_all_dragged.nd rfl (Or.inl rfl)) (pgs_cons (pg_name (i := 6) sc_all_dragged.nd rfl (Or.inl rfl)) pgs_nil)))
 (pss_cons (ps_set (i := 4) sc_all_dragged.nd rfl (Or.inl rfl) (pe_callN C_dragged (hr.mono (by decide)) (by rfl) (pa_cons (pv 5) (pa_cons (pv 4) (pa_cons (pv 6) pa_nil)))))
 (pss_one (ps_expr (pe_bmK K PySem.F.plainAttrs_list PySem.F.slot_list_append PySem.F.type_list_append mt_append (pv 3) (pa_cons (pv 4) pa_nil))))))
 (pss_one (ps_ret (pv 3)))))), ?_⟩
    dsimp only [tSeq, tAsg, gName, tOp, tUn, tTest, tB, tAnd, tOr, tNot, tAndV, tOrV, tNotV, tIf, tIfS, tRet, tRetN, tDrop, tNext, tCons, tNil, tCB, tCall, tMenu, tComp, tDComp, tDGet, iZip2, iEnum, tNoIf, tTru, tJoin, cxOf_K, tLst, tTup, tSl, tPart, tNoPart, tBM, tBM0, tChain, tC, tFor_eq, gTup, gLst, gCons, gNil, gSub, iList, iRng1, iRng2, iRng3, iTup, iZip3, tWhile, tDelS, tBreak, tCont, tRev, tRaise, tCallS, tTry, tAug, tPar, tNever, ipI, List.append_nil]
    walk_at "st"
    intro l hl
    walk_at "st"
    have s1 : Same H (upd H l (.lst [])) := same_upd hl
    refine ⟨_, _, rfl, ⟨_, s1.seq hA⟩, ⟨_, s1.seq hB⟩, lp_zip (xs := iL ps) (ys := iL xs) (fun i σ H2 => ∃ (ah : Int) (u v : Option V) (dn : List Int), σ = [some (.ref a), some (.ref b), some (.int c), some (.ref l), some (.int ah), u, v] ∧ NewI H H2 l dn ∧ dn.length ≤ 12 ∧ dn.length = i ∧ dragAll ps xs c = dn ++ dragAll (ps.drop i) (xs.drop i) ah) ?_ ?_ ?_ ?_⟩
    · exact ⟨c, _, _, [], rfl, ⟨hl, s1, upd_same⟩, by simp, rfl, rfl⟩
    · rintro i σ H2 ⟨ah, u, v, dn, rfl, N, hl12, hi, hk⟩
      exact ⟨N.sm.seq hA, N.sm.seq hB⟩
    · rintro i x y t σ H2 hx hy ⟨ah, u, v, dn, rfl, N, hl12, hi, hk⟩ ht
      rw [List.getElem?_map] at hx hy
      obtain ⟨p, hp, rfl⟩ := Option.map_eq_some_iff.mp hx
      obtain ⟨q, hq, rfl⟩ := Option.map_eq_some_iff.mp hy
      have hpl : i < ps.length := (List.getElem?_eq_some_iff.mp hp).1
      walk_at "st"
      refine ⟨_, _, rfl, SqT.of upd_same, rfl, _, _, rfl, _, _, rfl, rfl, ?_⟩
      walk_at "st"
      refine ⟨p, ah, q, rfl, ?_⟩
      rw [dropc hp, dropc hq] at hk
      have N2 := N.more (same_upd (o := .tup [.int p, .int q]) ht)
      walk_at "st"
      refine ⟨.inl ⟨rfl, _, SqL.of N2.at_⟩, ?_⟩
      walk_at "st"
      refine i_app N2.at_ (szlt (by simp [iL]; omega)) ?_
      refine ⟨_, _, _, dn ++ [drag p ah q], rfl, N2.app, by simp; omega, by simp; omega, ?_⟩
      rw [hk, dragAll]; simp
    · rintro σ H2 ⟨ah, u, v, dn, rfl, N, hl12, hi, hk⟩
      walk_at "st"
      have e : dragAll ps xs c = dn := by
        rw [hk]
        simp only [iL, List.length_map]
        by_cases h : ps.length ≤ xs.length
        · rw [Nat.min_eq_left h, List.drop_of_length_le (Nat.le_refl _), dragAll_nil, List.append_nil]
        · rw [Nat.min_eq_right (by omega), List.drop_of_length_le (l := xs) (Nat.le_refl _), dragAll_nil2, List.append_nil]
      rw [e] at k
      exact k l H2 N

--SPLIT
/-- a new list of new lists of ints has come -/
structure NewLL (H H' : Hp) (l : Addr) (xss : List (List Int)) (rs : List Addr) : Prop where
  fr : H l = none
  sm : Same H H'
  at_ : H' l = some (.lst (rs.map V.ref))
  it : Paired (fun r xs => H r = none ∧ H' r = some (.lst (iL xs))) rs xss
  nd : (l :: rs).Nodup
theorem NewLL.len {H H' : Hp} {l : Addr} {xss : List (List Int)} {rs : List Addr} (N : NewLL H H' l xss rs) : rs.length = xss.length := N.it.length
theorem paired_getL {α β : Type} {F : α → β → Prop} : ∀ {as : List α} {bs : List β} {i : Nat} {a : α}, Paired F as bs → as[i]? = some a → ∃ b, bs[i]? = some b ∧ F a b
  | _, _, i, b, .nil, h => by simp at h
  | _, _, 0, b, .cons r _, h => by simp at h; subst h; exact ⟨_, rfl, r⟩
  | _, _, i + 1, b, .cons _ t, h => by
    obtain ⟨a, h1, h2⟩ := paired_getL (i := i) (a := b) t (by simpa using h)
    exact ⟨a, by simpa using h1, h2⟩
theorem paired_mem {α β : Type} {F : α → β → Prop} : ∀ {as : List α} {bs : List β} {a : α}, Paired F as bs → a ∈ as → ∃ b, F a b
  | _, _, a, .nil, h => by simp at h
  | _, _, a, .cons r t, h => by
    rcases List.mem_cons.mp h with e | e
    · subst e; exact ⟨_, r⟩
    · exact paired_mem t e
theorem NewLL.more {H H' H2 : Hp} {l : Addr} {xss : List (List Int)} {rs : List Addr} (N : NewLL H H' l xss rs) (s : Same H' H2) : NewLL H H2 l xss rs := ⟨N.fr, N.sm.trans s, s _ _ N.at_, Paired.mapP N.it fun r xs h => ⟨h.1, s _ _ h.2⟩, N.nd⟩
def spRunOf (K : PySem.W.Frag) : Sp := fun vs H Q _ => ∃ (a b c : Addr) (ps ws row : List Int) (hd : Int), vs = [.ref a, .int hd, .ref b, .ref c] ∧ SqL K H a (iL ps) ∧ SqL K H b (iL ws) ∧ SqL K H c (iL row) ∧ isTr ps ∧ stand ps hd ws ∧ row.length ≤ 50000 ∧ ∀ l rs H', NewLL H H' l (runs ps ws row) rs → Q (.ref l) H'
theorem ok_run_of (T : Txt mg) (D : Def K mg "run_of" s_run_of) (C_refuse_no_stand : Callee P w K mg base "refuse_no_stand" 4 (spRefStand K)) (C_all_dragged : Callee P w K mg base "all_dragged" 2 (spAllDr K)) : Callee P w K mg base "run_of" 5 (spRunOf K) := by
  refine D.ok sc_run_of bd_run_of (fun vs H Q E h => ?len) (fun f cdv A outer s H vs Q E hr h => ?body)
  case len => obtain ⟨a, b, c, ps, ws, row, hd, rfl, _⟩ := h; rfl
  case body =>
    obtain ⟨a, b, c, ps, ws, row, hd, rfl, hA, hB, hC, ht, hs, hrow, k⟩ := h
    refine ⟨_, (pss_cons (ps_expr (pe_callN C_refuse_no_stand (hr.mono (by decide)) (by rfl) (pa_cons (pv 0) (pa_cons (pv 1) (pa_cons (pv 2) pa_nil)))))
 (pss_cons (ps_set (i := 4) sc_run_of.nd rfl (Or.inl rfl) (pe_lst pa_nil))
 (pss_cons (ps_set (i := 5) sc_run_of.nd rfl (Or.inl rfl) (pv 2))
 (pss_cons (ps_for PassesOwn.never rfl (pi_listK K (pv 3)) (pg_name (i := 6) sc_run_of.nd rfl (Or.inl rfl))
 (pss_cons (ps_set (i := 5) sc_run_of.nd rfl (Or.inl rfl) (pe_callN C_all_dragged (hr.mono (by decide)) (by rfl) (pa_cons (pv 0) (pa_cons (pv 5) (pa_cons (pv 6) pa_nil)))))
 (pss_one (ps_expr (pe_bmK K PySem.F.plainAttrs_list PySem.F.slot_list_append PySem.F.type_list_append mt_append (pv 4) (pa_cons (pv 5) pa_nil))))))
 (pss_one (ps_ret (pv 4))))))), ?_⟩
    dsimp only [tSeq, tAsg, gName, tOp, tUn, tTest, tB, tAnd, tOr, tNot, tAndV, tOrV, tNotV, tIf, tIfS, tRet, tRetN, tDrop, tNext, tCons, tNil, tCB, tCall, tMenu, tComp, tDComp, tDGet, iZip2, iEnum, tNoIf, tTru, tJoin, cxOf_K, tLst, tTup, tSl, tPart, tNoPart, tBM, tBM0, tChain, tC, tFor_eq, gTup, gLst, gCons, gNil, gSub, iList, iRng1, iRng2, iRng3, iTup, iZip3, tWhile, tDelS, tBreak, tCont, tRev, tRaise, tCallS, tTry, tAug, tPar, tNever, ipI, List.append_nil]
    walk_at "st"
    refine ⟨a, b, ps, ws, hd, rfl, hA, hB, ht, hs, fun H1 sm => ?_⟩
    walk_at "st"
    intro l hl
    walk_at "st"
    have s2 : Same H (upd H1 l (.lst [])) := sm.trans (same_upd hl)
    refine ⟨⟨_, s2.seq hC⟩, lp_ints (ns := row) (fun i σ H2 => ∃ (cur : Addr) (cs : List Int) (u : Option V) (xss : List (List Int)) (rs : List Addr), σ = [some (.ref a), some (.int hd), some (.ref b), some (.ref c), some (.ref l), some (.ref cur), u] ∧ NewLL H H2 l xss rs ∧ xss.length = i ∧ SqL K H2 cur (iL cs) ∧ runs ps ws row = xss ++ runs ps cs (row.drop i)) ?_ ?_ ?_ ?_⟩
    · exact ⟨b, ws, _, [], [], rfl, ⟨sm.free hl, s2, upd_same, .nil, by simp⟩, rfl, s2.seq hB, rfl⟩
    · rintro i σ H2 _ ⟨cur, cs, u, xss, rs, rfl, N, hx, hc, hrun⟩
      exact N.sm.seq hC
    · rintro i x σ H2 hxi ⟨cur, cs, u, xss, rs, rfl, N, hx, hc, hrun⟩
      have hil : i < row.length := (List.getElem?_eq_some_iff.mp hxi).1
      walk_at "st"
      refine ⟨a, cur, ps, cs, x, rfl, N.sm.seq hA, hc, ht.2.1, ht.2.2, fun r H3 N3 => ?_⟩
      walk_at "st"
      have N2 := N.more N3.sm
      refine ⟨.inl ⟨rfl, _, SqL.of N2.at_⟩, ?_⟩
      walk_at "st"
      have hlen := N.len
      refine i_app N2.at_ (szlt (by simp; omega)) ?_
      have nrl : r ≠ l := fun e => by have := N3.fr; rw [e, N.at_] at this; cases this
      have nrs : r ∉ rs := fun hm => by
        obtain ⟨_, _, z⟩ := paired_mem N.it hm
        rw [N3.fr] at z; cases z
      have nlr : ∀ {q : Addr}, q ∈ rs → q ≠ l := fun hm e => by subst e; exact (List.nodup_cons.mp N.nd).1 hm
      refine ⟨r, dragAll ps cs x, _, xss ++ [dragAll ps cs x], rs ++ [r], rfl, ⟨N.fr, fun b o e => ?_, ?_, ?_, ?_⟩, by simp; omega, ?_, ?_⟩
      · rw [upd_ne (ne_of_none e N.fr)]; exact N2.sm b o e
      · rw [upd_same]; simp
      · refine Paired.snoc ?_ ⟨N.sm.free N3.fr, by rw [upd_ne nrl]; exact N3.at_⟩
        have : ∀ {as : List Addr} {bs : List (List Int)}, Paired (fun r xs => H r = none ∧ H3 r = some (HO.lst (iL xs))) as bs → (∀ q ∈ as, q ≠ l) → Paired (fun q xs => H q = none ∧ upd H3 l (.lst (rs.map V.ref ++ [V.ref r])) q = some (HO.lst (iL xs))) as bs := by
          intro as bs p
          induction p with
          | nil => intro _; exact .nil
          | cons h1 _ ih =>
            intro hq
            refine .cons ⟨h1.1, by rw [upd_ne (hq _ List.mem_cons_self)]; exact h1.2⟩ (ih fun q hm => hq q (List.mem_cons_of_mem _ hm))
        exact this N2.it fun q hm => nlr hm
      · rw [← List.cons_append, List.nodup_append]
        refine ⟨N.nd, by simp, ?_⟩
        intro q hq z hz
        simp at hz
        subst hz
        rcases List.mem_cons.mp hq with e | e
        · rw [e]; exact nrl.symm
        · exact fun e2 => nrs (e2 ▸ e)
      · exact SqL.of (by rw [upd_ne nrl]; exact N3.at_)
      · rw [hrun, dropc hxi, runs]; simp
    · rintro σ H2 ⟨cur, cs, u, xss, rs, rfl, N, hx, hc, hrun⟩
      walk_at "st"
      rw [List.drop_of_length_le (Nat.le_refl _), runs, List.append_nil] at hrun
      rw [hrun] at k
      exact k l rs H2 N

def spDepths (K : PySem.W.Frag) : Sp := fun vs H Q _ => ∃ (a : Addr) (ps : List Int), vs = [.ref a] ∧ SqL K H a (iL ps) ∧ isTr ps ∧ ∀ l H', NewI H H' l (depths 0 ps) → Q (.ref l) H'
theorem ok_depths_of (T : Txt mg) (D : Def K mg "depths_of" s_depths_of) (C_refuse_no_train : Callee P w K mg base "refuse_no_train" 2 (spRefTrain K)) : Callee P w K mg base "depths_of" 3 (spDepths K) := by
  refine D.ok sc_depths_of bd_depths_of (fun vs H Q E h => ?len) (fun f cdv A outer s H vs Q E hr h => ?body)
  case len => obtain ⟨a, ps, rfl, _⟩ := h; rfl
  case body =>
    obtain ⟨a, ps, rfl, hA, ht, k⟩ := h
    refine ⟨_, (pss_cons (ps_expr (pe_callN C_refuse_no_train (hr.mono (by decide)) (by rfl) (pa_cons (pv 0) pa_nil)))
 (pss_cons (ps_set (i := 1) sc_depths_of.nd rfl (Or.inl rfl) (pe_lst pa_nil))
 (pss_cons (ps_set (i := 2) sc_depths_of.nd rfl (Or.inl rfl) pe_int)
 (pss_cons (ps_for PassesOwn.never rfl (pi_listK K (pv 0)) (pg_name (i := 3) sc_depths_of.nd rfl (Or.inl rfl))
 (pss_cons (ps_aug (i := 2) sc_depths_of.nd rfl (Or.inl rfl) (pv 3) ip_add)
 (pss_one (ps_expr (pe_bmK K PySem.F.plainAttrs_list PySem.F.slot_list_append PySem.F.type_list_append mt_append (pv 1) (pa_cons (pv 2) pa_nil))))))
 (pss_one (ps_ret (pv 1))))))), ?_⟩
    dsimp only [tSeq, tAsg, gName, tOp, tUn, tTest, tB, tAnd, tOr, tNot, tAndV, tOrV, tNotV, tIf, tIfS, tRet, tRetN, tDrop, tNext, tCons, tNil, tCB, tCall, tMenu, tComp, tDComp, tDGet, iZip2, iEnum, tNoIf, tTru, tJoin, cxOf_K, tLst, tTup, tSl, tPart, tNoPart, tBM, tBM0, tChain, tC, tFor_eq, gTup, gLst, gCons, gNil, gSub, iList, iRng1, iRng2, iRng3, iTup, iZip3, tWhile, tDelS, tBreak, tCont, tRev, tRaise, tCallS, tTry, tAug, tPar, tNever, ipI, List.append_nil]
    walk_at "st"
    refine ⟨a, ps, rfl, hA, ht, ?_⟩
    walk_at "st"
    intro l hl
    walk_at "st"
    have s2 : Same H (upd H l (.lst [])) := same_upd hl
    have h12 := ht.2.1
    refine ⟨⟨_, s2.seq hA⟩, lp_ints (ns := ps) (fun i σ H2 => ∃ (u : Option V) (dn : List Int) (dd : Int), σ = [some (.ref a), some (.ref l), some (.int dd), u] ∧ NewI H H2 l dn ∧ dn.length = i ∧ depths 0 ps = dn ++ depths dd (ps.drop i)) ?_ ?_ ?_ ?_⟩
    · exact ⟨_, [], 0, rfl, ⟨hl, s2, upd_same⟩, rfl, rfl⟩
    · rintro i σ H2 _ ⟨u, dn, dd, rfl, N, hi, hd⟩
      exact N.sm.seq hA
    · rintro i x σ H2 hxi ⟨u, dn, dd, rfl, N, hi, hd⟩
      have hil : i < ps.length := (List.getElem?_eq_some_iff.mp hxi).1
      walk_at "st"
      refine ⟨_, _, rfl, rfl, ?_⟩
      walk_at "st"
      refine ⟨.inl ⟨rfl, _, SqL.of N.at_⟩, ?_⟩
      walk_at "st"
      refine i_app N.at_ (szlt (by simp [iL]; omega)) ?_
      refine ⟨_, dn ++ [dd + x], dd + x, rfl, N.app, by simp; omega, ?_⟩
      rw [hd, dropc hxi, depths]; simp
    · rintro σ H2 ⟨u, dn, dd, rfl, N, hi, hd⟩
      walk_at "st"
      rw [List.drop_of_length_le (Nat.le_refl _), depths, List.append_nil] at hd
      rw [hd] at k
      exact k l H2 N

def spHung (K : PySem.W.Frag) : Sp := fun vs H Q _ => ∃ (c : Addr) (row : List Int) (d x : Int), vs = [.int d, .int x, .ref c] ∧ SqL K H c (iL row) ∧ row.length ≤ 50000 ∧ 0 ≤ d ∧ ∀ l H', NewI H H' l (hung d x row) → Q (.ref l) H'
theorem ok_hung_row (T : Txt mg) (D : Def K mg "hung_row" s_hung_row) (C_dragged : Callee P w K mg base "dragged" 1 spDragged) : Callee P w K mg base "hung_row" 2 (spHung K) := by
  refine D.ok sc_hung_row bd_hung_row (fun vs H Q E h => ?len) (fun f cdv A outer s H vs Q E hr h => ?body)
  case len => obtain ⟨c, row, d, x, rfl, _⟩ := h; rfl
  case body =>
    obtain ⟨c, row, d, x, rfl, hC, hrow, hd0, k⟩ := h
    refine ⟨_, (pss_cons (ps_set (i := 3) sc_hung_row.nd rfl (Or.inl rfl) (pe_lst pa_nil))
 (pss_cons (ps_for PassesOwn.never rfl (pi_listK K (pv 2)) (pg_name (i := 4) sc_hung_row.nd rfl (Or.inl rfl))
 (pss_cons (ps_set (i := 1) sc_hung_row.nd rfl (Or.inl rfl) (pe_callN C_dragged (hr.mono (by decide)) (by rfl) (pa_cons (pv 0) (pa_cons (pv 4) (pa_cons (pv 1) pa_nil)))))
 (pss_one (ps_expr (pe_bmK K PySem.F.plainAttrs_list PySem.F.slot_list_append PySem.F.type_list_append mt_append (pv 3) (pa_cons (pv 1) pa_nil))))))
 (pss_one (ps_ret (pv 3))))), ?_⟩
    dsimp only [tSeq, tAsg, gName, tOp, tUn, tTest, tB, tAnd, tOr, tNot, tAndV, tOrV, tNotV, tIf, tIfS, tRet, tRetN, tDrop, tNext, tCons, tNil, tCB, tCall, tMenu, tComp, tDComp, tDGet, iZip2, iEnum, tNoIf, tTru, tJoin, cxOf_K, tLst, tTup, tSl, tPart, tNoPart, tBM, tBM0, tChain, tC, tFor_eq, gTup, gLst, gCons, gNil, gSub, iList, iRng1, iRng2, iRng3, iTup, iZip3, tWhile, tDelS, tBreak, tCont, tRev, tRaise, tCallS, tTry, tAug, tPar, tNever, ipI, List.append_nil]
    walk_at "st"
    intro l hl
    walk_at "st"
    have s2 : Same H (upd H l (.lst [])) := same_upd hl
    refine ⟨⟨_, s2.seq hC⟩, lp_ints (ns := row) (fun i σ H2 => ∃ (u : Option V) (dn : List Int) (y : Int), σ = [some (.int d), some (.int y), some (.ref c), some (.ref l), u] ∧ NewI H H2 l dn ∧ dn.length = i ∧ hung d x row = dn ++ hung d y (row.drop i)) ?_ ?_ ?_ ?_⟩
    · exact ⟨_, [], x, rfl, ⟨hl, s2, upd_same⟩, rfl, rfl⟩
    · rintro i σ H2 _ ⟨u, dn, y, rfl, N, hi, hd⟩
      exact N.sm.seq hC
    · rintro i z σ H2 hzi ⟨u, dn, y, rfl, N, hi, hd⟩
      have hil : i < row.length := (List.getElem?_eq_some_iff.mp hzi).1
      walk_at "st"
      refine ⟨d, z, y, rfl, ?_⟩
      walk_at "st"
      refine ⟨.inl ⟨rfl, _, SqL.of N.at_⟩, ?_⟩
      walk_at "st"
      refine i_app N.at_ (szlt (by simp [iL]; omega)) ?_
      refine ⟨_, dn ++ [drag d z y], drag d z y, rfl, N.app, by simp; omega, ?_⟩
      rw [hd, dropc hzi, hung]; simp
    · rintro σ H2 ⟨u, dn, y, rfl, N, hi, hd⟩
      walk_at "st"
      rw [List.drop_of_length_le (Nat.le_refl _), hung, List.append_nil] at hd
      rw [hd] at k
      exact k l H2 N

--SPLIT
abbrev MsAt (H : Hp) (ts : List Addr) (ms : List Must) : Prop := Paired (fun t (m : Must) => H t = some (.tup [.int m.1, .int m.2])) ts ms
/-- a new list of musts has come -/
structure NewM (H H' : Hp) (l : Addr) (ms : List Must) (ts : List Addr) : Prop where
  fr : H l = none
  sm : Same H H'
  at_ : H' l = some (.lst (ts.map V.ref))
  it : MsAt H' ts ms
theorem MsAt.more {H H' : Hp} {ts : List Addr} {ms : List Must} (h : MsAt H ts ms) (s : Same H H') : MsAt H' ts ms := Paired.mapP h fun _ _ e => s _ _ e
theorem NewM.more {H H' H2 : Hp} {l : Addr} {ms : List Must} {ts : List Addr} (N : NewM H H' l ms ts) (s : Same H' H2) : NewM H H2 l ms ts := ⟨N.fr, N.sm.trans s, s _ _ N.at_, N.it.more s⟩
theorem MsAt.up {H : Hp} {l : Addr} {vs ws : List V} {ts : List Addr} {ms : List Must} (h : MsAt H ts ms) (hl : H l = some (.lst ws)) : MsAt (upd H l (.lst vs)) ts ms :=
  Paired.mapP h fun t m e => by
    have : t ≠ l := fun z => by rw [z, hl] at e; cases e
    rw [upd_ne this]; exact e
theorem NewM.app {H H' : Hp} {l t : Addr} {ms : List Must} {ts : List Addr} {m : Must} (N : NewM H H' l ms ts) (e : H' t = some (.tup [.int m.1, .int m.2])) : NewM H (upd H' l (.lst (ts.map V.ref ++ [V.ref t]))) l (ms ++ [m]) (ts ++ [t]) := by
  refine ⟨N.fr, fun b o z => by rw [upd_ne (ne_of_none z N.fr)]; exact N.sm b o z, by rw [upd_same]; simp, Paired.snoc (N.it.up N.at_) ?_⟩
  have : t ≠ l := fun z => by rw [z, N.at_] at e; cases e
  rw [upd_ne this]; exact e
theorem i_pc {H : Hp} {Q : VK} {l : Addr} {xs : List Int} {h w : Int} (hl : H l = some (.lst (iL (xs ++ [h])))) (h0 : -1 ≤ w) (h1 : w < xs.length) (q : Q (.int (pc xs h w)) H) : rIxP K (.ref l) (.int w) H Q := by
  by_cases e : w = -1
  · subst e
    rw [pc_neg] at q
    exact i_ixLast (xs := iL xs) (SqL.of (by rw [hl]; simp [iL])) q
  · have g := pc_get (h := h) (show 0 ≤ w by omega) h1
    exact i_ixN (SqL.of hl) (by omega) (by rw [List.getElem?_map, List.getElem?_append_left (by omega), g]; rfl) q
theorem paired_snocI {α β : Type} {F : α → β → Prop} : ∀ {as : List α} {bs : List β} {b : β}, Paired F as (bs ++ [b]) → ∃ as' a, as = as' ++ [a] ∧ F a b
  | _, [], b, h => by
    cases h with
    | cons h t => cases t; exact ⟨[], _, rfl, h⟩
  | _, c :: bs, b, h => by
    cases h with
    | cons h t =>
      obtain ⟨as', a, rfl, q⟩ := paired_snocI (bs := bs) t
      exact ⟨_ :: as', a, rfl, q⟩
def spPieces : Sp := fun vs H Q _ => ∃ (hd : Int) (a : Addr) (xs : List Int), vs = [.int hd, .ref a] ∧ H a = some (.lst (iL xs)) ∧ xs.length ≤ 1000 ∧ ∀ l H', NewI H H' l (xs ++ [hd]) → Q (.ref l) H'
theorem ok_pieces_of (T : Txt mg) (D : Def K mg "pieces_of" s_pieces_of) : Callee P w K mg base "pieces_of" 1 spPieces := by
  refine D.ok sc_pieces_of bd_pieces_of (fun vs H Q E h => ?len) (fun f cdv A outer s H vs Q E hr h => ?body)
  case len => obtain ⟨hd, a, xs, rfl, _⟩ := h; rfl
  case body =>
    obtain ⟨hd, a, xs, rfl, hA, hl, k⟩ := h
    refine ⟨_, (pss_one (ps_ret (pe_op op_addP (pv 1) (pe_lst (pa_cons (pv 0) pa_nil))))), ?_⟩
    dsimp only [tSeq, tAsg, gName, tOp, tUn, tTest, tB, tAnd, tOr, tNot, tAndV, tOrV, tNotV, tIf, tIfS, tRet, tRetN, tDrop, tNext, tCons, tNil, tCB, tCall, tMenu, tComp, tDComp, tDGet, iZip2, iEnum, tNoIf, tTru, tJoin, cxOf_K, tLst, tTup, tSl, tPart, tNoPart, tBM, tBM0, tChain, tC, tFor_eq, gTup, gLst, gCons, gNil, gSub, iList, iRng1, iRng2, iRng3, iTup, iZip3, tWhile, tDelS, tBreak, tCont, tRev, tRaise, tCallS, tTry, tAug, tPar, tNever, ipI, List.append_nil]
    walk_at "st"
    intro g hg
    refine i_addL (a := a) (b := g) (same_upd hg _ _ hA) upd_same (by simp [iL]; exact szl (by omega)) (fun l hl2 => ?_)
    exact k l _ ⟨(same_upd hg).free hl2, (same_upd hg).trans (same_upd hl2), by rw [upd_same]; simp [iL]⟩

def spRefErr : Sp := fun vs H Q _ => ∃ (a b c : Addr) (ps ws gs : List Int) (hd e : Int), vs = [.ref a, .int hd, .ref b, .int e, .ref c] ∧ H a = some (.lst (iL ps)) ∧ H b = some (.lst (iL ws)) ∧ H c = some (.lst (iL gs)) ∧ isTr ps ∧ stand ps hd ws ∧ stand ps e gs ∧ ∀ H', Same H H' → Q .non H'
theorem ok_refuse_no_errand (T : Txt mg) (D : Def K mg "refuse_no_errand" s_refuse_no_errand) (C_refuse_no_stand : Callee P w K mg base "refuse_no_stand" 4 (spRefStand K)) : Callee P w K mg base "refuse_no_errand" 5 spRefErr := by
  refine D.ok sc_refuse_no_errand bd_refuse_no_errand (fun vs H Q E h => ?len) (fun f cdv A outer s H vs Q E hr h => ?body)
  case len => obtain ⟨a, b, c, ps, ws, gs, hd, e, rfl, _⟩ := h; rfl
  case body =>
    obtain ⟨a, b, c, ps, ws, gs, hd, e, rfl, hA, hB, hC, ht, hs, hg, k⟩ := h
    refine ⟨_, (pss_cons (ps_expr (pe_callN C_refuse_no_stand (hr.mono (by decide)) (by rfl) (pa_cons (pv 0) (pa_cons (pv 1) (pa_cons (pv 2) pa_nil)))))
 (pss_one (ps_expr (pe_callN C_refuse_no_stand (hr.mono (by decide)) (by rfl) (pa_cons (pv 0) (pa_cons (pv 3) (pa_cons (pv 4) pa_nil))))))), ?_⟩
    dsimp only [tSeq, tAsg, gName, tOp, tUn, tTest, tB, tAnd, tOr, tNot, tAndV, tOrV, tNotV, tIf, tIfS, tRet, tRetN, tDrop, tNext, tCons, tNil, tCB, tCall, tMenu, tComp, tDComp, tDGet, iZip2, iEnum, tNoIf, tTru, tJoin, cxOf_K, tLst, tTup, tSl, tPart, tNoPart, tBM, tBM0, tChain, tC, tFor_eq, gTup, gLst, gCons, gNil, gSub, iList, iRng1, iRng2, iRng3, iTup, iZip3, tWhile, tDelS, tBreak, tCont, tRev, tRaise, tCallS, tTry, tAug, tPar, tNever, ipI, List.append_nil]
    walk_at "st"
    refine ⟨a, b, ps, ws, hd, rfl, SqL.of hA, SqL.of hB, ht, hs, fun H1 s1 => ?_⟩
    walk_at "st"
    refine ⟨a, c, ps, gs, e, rfl, SqL.of (s1 _ _ hA), SqL.of (s1 _ _ hC), ht, hg, fun H2 s2 => ?_⟩
    walk_at "st"
    exact k H2 (s1.trans s2)

def spMustPlace : Sp := fun vs H Q _ => ∃ (a c t : Addr) (ps gs : List Int) (e : Int) (m : Must), vs = [.ref a, .int e, .ref c, .ref t] ∧ H a = some (.lst (iL ps)) ∧ H c = some (.lst (iL gs)) ∧ H t = some (.tup [.int m.1, .int m.2]) ∧ isTr ps ∧ stand ps e gs ∧ okMust ps.length m ∧
  ∀ H', Same H H' → Q (.int (mp (pc (depths 0 ps) 0) (pc gs e) m)) H'
theorem ok_must_place (T : Txt mg) (D : Def K mg "must_place" s_must_place) (C_refuse_no_stand : Callee P w K mg base "refuse_no_stand" 4 (spRefStand K)) (C_pieces_of : Callee P w K mg base "pieces_of" 1 spPieces) (C_depths_of : Callee P w K mg base "depths_of" 3 (spDepths K)) : Callee P w K mg base "must_place" 5 spMustPlace := by
  refine D.ok sc_must_place bd_must_place (fun vs H Q E h => ?len) (fun f cdv A outer s H vs Q E hr h => ?body)
  case len => obtain ⟨a, c, t, ps, gs, e, m, rfl, _⟩ := h; rfl
  case body =>
    obtain ⟨a, c, t, ps, gs, e, m, rfl, hA, hC, hT, ht, hg, ⟨o1, o2, o3⟩, k⟩ := h
    have h12 := ht.2.1
    have hgl := hg.1
    refine ⟨_, (pss_cons (ps_expr (pe_callN C_refuse_no_stand (hr.mono (by decide)) (by rfl) (pa_cons (pv 0) (pa_cons (pv 1) (pa_cons (pv 2) pa_nil)))))
 (pss_cons (ps_asg (pv 3) (pg_tupK K 2 (pgs_cons (pg_name (i := 4) sc_must_place.nd rfl (Or.inl rfl)) (pgs_cons (pg_name (i := 5) sc_must_place.nd rfl (Or.inl rfl)) pgs_nil))))
 (pss_one (ps_ret (pe_op op_addP (pe_ix (ix_K K) (pe_callN C_pieces_of (hr.mono (by decide)) (by rfl) (pa_cons (pv 1) (pa_cons (pv 2) pa_nil))) (pv 4) (by exact fun _ _ => rfl)) (pe_op op_mulP (pv 5) (pe_ix (ix_K K) (pe_callN C_pieces_of (hr.mono (by decide)) (by rfl) (pa_cons pe_int (pa_cons (pe_callN C_depths_of (hr.mono (by decide)) (by rfl) (pa_cons (pv 0) pa_nil)) pa_nil))) (pv 4) (by exact fun _ _ => rfl)))))))), ?_⟩
    dsimp only [tSeq, tAsg, gName, tOp, tUn, tTest, tB, tAnd, tOr, tNot, tAndV, tOrV, tNotV, tIf, tIfS, tRet, tRetN, tDrop, tNext, tCons, tNil, tCB, tCall, tMenu, tComp, tDComp, tDGet, iZip2, iEnum, tNoIf, tTru, tJoin, cxOf_K, tLst, tTup, tSl, tPart, tNoPart, tBM, tBM0, tChain, tC, tFor_eq, gTup, gLst, gCons, gNil, gSub, iList, iRng1, iRng2, iRng3, iTup, iZip3, tWhile, tDelS, tBreak, tCont, tRev, tRaise, tCallS, tTry, tAug, tPar, tNever, ipI, List.append_nil]
    walk_at "st"
    refine ⟨a, c, ps, gs, e, rfl, SqL.of hA, SqL.of hC, ht, hg, fun H1 s1 => ?_⟩
    walk_at "st"
    refine ⟨_, _, rfl, SqT.of (s1 _ _ hT), rfl, _, _, rfl, _, _, rfl, rfl, ?_⟩
    walk_at "st"
    refine ⟨e, c, gs, rfl, s1 _ _ hC, by omega, fun l1 H2 N2 => ?_⟩
    walk_at "st"
    refine i_pc N2.at_ o1 (by omega) ?_
    walk_at "st"
    refine ⟨a, ps, rfl, SqL.of (N2.sm _ _ (s1 _ _ hA)), ht, fun l2 H3 N3 => ?_⟩
    walk_at "st"
    refine ⟨0, l2, depths 0 ps, rfl, N3.at_, by rw [depths_length]; omega, fun l3 H4 N4 => ?_⟩
    walk_at "st"
    refine i_pc N4.at_ o1 (by rw [depths_length]; omega) ?_
    walk_at "st"
    refine i_mulI (cmul_l (by omega) (by omega)) ?_
    walk_at "st"
    exact k H4 (((s1.trans N2.sm).trans N3.sm).trans N4.sm)

def spSide : Sp := fun vs H Q _ => ∃ (b c : Addr) (ws gs : List Int) (hd e wh : Int), vs = [.int hd, .ref b, .int e, .ref c, .int wh] ∧ H b = some (.lst (iL ws)) ∧ H c = some (.lst (iL gs)) ∧ ws.length ≤ 12 ∧ gs.length = ws.length ∧ -1 ≤ wh ∧ wh < ws.length ∧
  ∀ H', Same H H' → Q (.int (if pc ws hd wh = pc gs e wh then 0 else sgn (pc ws hd) (pc gs e) wh)) H'
theorem ok_side_to_go (T : Txt mg) (D : Def K mg "side_to_go" s_side_to_go) (C_pieces_of : Callee P w K mg base "pieces_of" 1 spPieces) : Callee P w K mg base "side_to_go" 2 spSide := by
  refine D.ok sc_side_to_go bd_side_to_go (fun vs H Q E h => ?len) (fun f cdv A outer s H vs Q E hr h => ?body)
  case len => obtain ⟨b, c, ws, gs, hd, e, wh, rfl, _⟩ := h; rfl
  case body =>
    obtain ⟨b, c, ws, gs, hd, e, wh, rfl, hB, hC, hl, hgl, o1, o2, k⟩ := h
    have hu := hr.units
    refine ⟨_, (pss_cons (ps_set (i := 5) sc_side_to_go.nd rfl (Or.inl rfl) (pe_ix (ix_K K) (pe_callN C_pieces_of (hr.mono (by decide)) (by rfl) (pa_cons (pv 0) (pa_cons (pv 1) pa_nil))) (pv 4) (by exact fun _ _ => rfl)))
 (pss_cons (ps_set (i := 6) sc_side_to_go.nd rfl (Or.inl rfl) (pe_ix (ix_K K) (pe_callN C_pieces_of (hr.mono (by decide)) (by rfl) (pa_cons (pv 2) (pa_cons (pv 3) pa_nil))) (pv 4) (by exact fun _ _ => rfl)))
 (pss_cons (ps_if (pt_cmpR (op_eqK K hu) (pv 5) (pv 6) (nomark _))
 (pss_one (ps_ret pe_int))
 pss_nil)
 (pss_one (ps_ret (pe_ifExp (pt_cmpR op_lt (pv 5) (pv 6) (nomark _)) pe_int (pe_negK (r := -1) (by decide)))))))), ?_⟩
    dsimp only [tSeq, tAsg, gName, tOp, tUn, tTest, tB, tAnd, tOr, tNot, tAndV, tOrV, tNotV, tIf, tIfS, tRet, tRetN, tDrop, tNext, tCons, tNil, tCB, tCall, tMenu, tComp, tDComp, tDGet, iZip2, iEnum, tNoIf, tTru, tJoin, cxOf_K, tLst, tTup, tSl, tPart, tNoPart, tBM, tBM0, tChain, tC, tFor_eq, gTup, gLst, gCons, gNil, gSub, iList, iRng1, iRng2, iRng3, iTup, iZip3, tWhile, tDelS, tBreak, tCont, tRev, tRaise, tCallS, tTry, tAug, tPar, tNever, ipI, List.append_nil]
    walk_at "st"
    refine ⟨hd, b, ws, rfl, hB, by omega, fun l1 H1 N1 => ?_⟩
    walk_at "st"
    refine i_pc N1.at_ o1 (by omega) ?_
    walk_at "st"
    refine ⟨e, c, gs, rfl, N1.sm _ _ hC, by omega, fun l2 H2 N2 => ?_⟩
    walk_at "st"
    refine i_pc N2.at_ o1 (by omega) ?_
    walk_at "st"
    have sm := N1.sm.trans N2.sm
    refine i_if (fun g => ?_) (fun g => ?_)
    · walk_at "st"
      rw [if_pos g] at k
      exact k H2 sm
    · walk_at "st"
      rw [if_neg g] at k
      unfold sgn at k
      refine i_if (fun g2 => ?_) (fun g2 => ?_)
      · rw [if_pos g2] at k
        exact k H2 sm
      · rw [if_neg g2] at k
        exact k H2 sm

def spBeyond : Sp := fun vs H Q _ => ∃ (a c t : Addr) (ps gs : List Int) (e wh : Int) (m : Must), vs = [.ref a, .int e, .ref c, .ref t, .int wh] ∧ H a = some (.lst (iL ps)) ∧ H c = some (.lst (iL gs)) ∧ H t = some (.tup [.int m.1, .int m.2]) ∧ isTr ps ∧ stand ps e gs ∧ okMust ps.length m ∧ -1 ≤ wh ∧ wh < ps.length ∧
  ∀ H', Same H H' → Q (.bl (decide (bey (pc (depths 0 ps) 0) (pc gs e) m wh))) H'
theorem ok_is_beyond (T : Txt mg) (D : Def K mg "is_beyond" s_is_beyond) (C_pieces_of : Callee P w K mg base "pieces_of" 1 spPieces) (C_depths_of : Callee P w K mg base "depths_of" 3 (spDepths K)) (C_must_place : Callee P w K mg base "must_place" 5 spMustPlace) : Callee P w K mg base "is_beyond" 6 spBeyond := by
  refine D.ok sc_is_beyond bd_is_beyond (fun vs H Q E h => ?len) (fun f cdv A outer s H vs Q E hr h => ?body)
  case len => obtain ⟨a, c, t, ps, gs, e, wh, m, rfl, _⟩ := h; rfl
  case body =>
    obtain ⟨a, c, t, ps, gs, e, wh, m, rfl, hA, hC, hT, ht, hg, hm, w1, w2, k⟩ := h
    have h12 := ht.2.1
    have hgl := hg.1
    have o3 := hm.2.2
    refine ⟨_, (pss_cons (ps_set (i := 5) sc_is_beyond.nd rfl (Or.inl rfl) (pe_ix (ix_K K) (pe_callN C_pieces_of (hr.mono (by decide)) (by rfl) (pa_cons pe_int (pa_cons (pe_callN C_depths_of (hr.mono (by decide)) (by rfl) (pa_cons (pv 0) pa_nil)) pa_nil))) (pv 4) (by exact fun _ _ => rfl)))
 (pss_cons (ps_set (i := 6) sc_is_beyond.nd rfl (Or.inl rfl) (pe_ix (ix_K K) (pe_callN C_pieces_of (hr.mono (by decide)) (by rfl) (pa_cons (pv 1) (pa_cons (pv 2) pa_nil))) (pv 4) (by exact fun _ _ => rfl)))
 (pss_one (ps_ret (pe_cmpR op_gt (pe_op op_mulP (pe_op op_sub (pe_callN C_must_place (hr.mono (by decide)) (by rfl) (pa_cons (pv 0) (pa_cons (pv 1) (pa_cons (pv 2) (pa_cons (pv 3) pa_nil))))) (pv 6)) (pe_ix (ix_K K) (pv 3) pe_int (by exact fun _ _ => rfl))) (pv 5) (nomark _)))))), ?_⟩
    dsimp only [tSeq, tAsg, gName, tOp, tUn, tTest, tB, tAnd, tOr, tNot, tAndV, tOrV, tNotV, tIf, tIfS, tRet, tRetN, tDrop, tNext, tCons, tNil, tCB, tCall, tMenu, tComp, tDComp, tDGet, iZip2, iEnum, tNoIf, tTru, tJoin, cxOf_K, tLst, tTup, tSl, tPart, tNoPart, tBM, tBM0, tChain, tC, tFor_eq, gTup, gLst, gCons, gNil, gSub, iList, iRng1, iRng2, iRng3, iTup, iZip3, tWhile, tDelS, tBreak, tCont, tRev, tRaise, tCallS, tTry, tAug, tPar, tNever, ipI, List.append_nil]
    walk_at "st"
    refine ⟨a, ps, rfl, SqL.of hA, ht, fun l1 H1 N1 => ?_⟩
    walk_at "st"
    refine ⟨0, l1, depths 0 ps, rfl, N1.at_, by rw [depths_length]; omega, fun l2 H2 N2 => ?_⟩
    walk_at "st"
    refine i_pc N2.at_ w1 (by rw [depths_length]; omega) ?_
    have s2 := N1.sm.trans N2.sm
    walk_at "st"
    refine ⟨e, c, gs, rfl, s2 _ _ hC, by omega, fun l3 H3 N3 => ?_⟩
    walk_at "st"
    refine i_pc N3.at_ w1 (by omega) ?_
    have s3 := s2.trans N3.sm
    walk_at "st"
    refine ⟨a, c, t, ps, gs, e, m, rfl, s3 _ _ hA, s3 _ _ hC, s3 _ _ hT, ht, hg, hm, fun H4 s4 => ?_⟩
    have s5 := s3.trans s4
    walk_at "st"
    refine i_ixT (SqT.of (s5 _ _ hT)) (by decide) rfl ?_
    walk_at "st"
    refine i_mulI (cmul_r (by omega) (by omega)) ?_
    walk_at "st"
    exact k H4 s5

def spFirst : Sp := fun vs H Q _ => ∃ (b c : Addr) (ws gs : List Int) (hd e : Int), vs = [.int hd, .ref b, .int e, .ref c] ∧ H b = some (.lst (iL ws)) ∧ H c = some (.lst (iL gs)) ∧ ws.length ≤ 12 ∧ gs.length = ws.length ∧
  ∀ l ts H', NewM H H' l (fm (pc ws hd) (pc gs e) ws.length) ts → Q (.ref l) H'
theorem ok_first_musts (T : Txt mg) (D : Def K mg "first_musts" s_first_musts) (C_side_to_go : Callee P w K mg base "side_to_go" 2 spSide) : Callee P w K mg base "first_musts" 3 spFirst := by
  refine D.ok sc_first_musts bd_first_musts (fun vs H Q E h => ?len) (fun f cdv A outer s H vs Q E hr h => ?body)
  case len => obtain ⟨b, c, ws, gs, hd, e, rfl, _⟩ := h; rfl
  case body =>
    obtain ⟨b, c, ws, gs, hd, e, rfl, hB, hC, hl, hgl, k⟩ := h
    have hu := hr.units
    have kk : ∀ l ts H', NewM H H' l (ff (pc ws hd) (pc gs e) (ws.length + 1)) ts → Q (.ref l) H' := k
    clear k
    refine ⟨_, (pss_cons (ps_for PassesOwn.never rfl (pi_range3 (by rfl) T.z_range (pa_cons (pe_op op_sub (pe_callB (call_lenK K) (by rfl) T.z_len bt_len (pa_cons (pv 1) pa_nil)) pe_int) (pa_cons (pe_negK (r := -2) (by decide)) (pa_cons (pe_negK (r := -1) (by decide)) pa_nil)))) (pg_name (i := 4) sc_first_musts.nd rfl (Or.inl rfl))
 (pss_cons (ps_set (i := 5) sc_first_musts.nd rfl (Or.inl rfl) (pe_callN C_side_to_go (hr.mono (by decide)) (by rfl) (pa_cons (pv 0) (pa_cons (pv 1) (pa_cons (pv 2) (pa_cons (pv 3) (pa_cons (pv 4) pa_nil)))))))
 (pss_one (ps_if (pt_cmpR (op_neK K hu) (pv 5) pe_int (nomark _))
 (pss_one (ps_ret (pe_lst (pa_cons (pe_tup (pa_cons (pv 4) (pa_cons (pv 5) pa_nil))) pa_nil))))
 pss_nil))))
 (pss_one (ps_ret (pe_lst pa_nil)))), ?_⟩
    dsimp only [tSeq, tAsg, gName, tOp, tUn, tTest, tB, tAnd, tOr, tNot, tAndV, tOrV, tNotV, tIf, tIfS, tRet, tRetN, tDrop, tNext, tCons, tNil, tCB, tCall, tMenu, tComp, tDComp, tDGet, iZip2, iEnum, tNoIf, tTru, tJoin, cxOf_K, tLst, tTup, tSl, tPart, tNoPart, tBM, tBM0, tChain, tC, tFor_eq, gTup, gLst, gCons, gNil, gSub, iList, iRng1, iRng2, iRng3, iTup, iZip3, tWhile, tDelS, tBreak, tCont, tRev, tRaise, tCallS, tTry, tAug, tPar, tNever, ipI, List.append_nil]
    walk_at "st"
    refine i_lenI (SqL.of hB) ?_
    walk_at "st"
    refine ⟨_, _, rfl, ⟨by omega, by omega, by omega, by omega⟩, lp_down (fun i σ H2 => ∃ (u v : Option V), σ = [some (.int hd), some (.ref b), some (.int e), some (.ref c), u, v] ∧ Same H H2 ∧ i ≤ ws.length + 1 ∧ ff (pc ws hd) (pc gs e) (ws.length + 1) = ff (pc ws hd) (pc gs e) (ws.length + 1 - i)) ?_ ?_ ?_⟩
    · exact ⟨_, _, rfl, Same.refl _, Nat.zero_le _, rfl⟩
    · rintro i σ H2 hi ⟨u, v, rfl, sm, hin, hf⟩
      have hi' : i < ws.length + 1 := by omega
      walk_at "st"
      refine ⟨b, c, ws, gs, hd, e, _, rfl, sm _ _ hB, sm _ _ hC, hl, hgl, by omega, by omega, fun H3 s3 => ?_⟩
      have st := ff_step (pc ws hd) (pc gs e) (ws.length - i)
      rw [show ws.length - i + 1 = ws.length + 1 - i by omega, show ((ws.length - i : Nat) : Int) - 1 = (ws.length : Int) - 1 - i by omega] at st
      generalize hwh : (ws.length : Int) - 1 - (i : Int) = wh at *
      walk_at "st"
      by_cases q : pc ws hd wh = pc gs e wh
      · rw [if_pos q] at st ⊢
        refine i_ifn (fun g => absurd rfl g) (fun _ => ?_)
        refine ⟨_, _, rfl, sm.trans s3, by omega, ?_⟩
        rw [hf, st, show ws.length - i = ws.length + 1 - (i + 1) by omega]
      · rw [if_neg q] at st ⊢
        refine i_ifn (fun _ => ?_) (fun g => absurd g (by unfold sgn; split <;> decide))
        walk_at "st"
        intro t ht
        walk_at "st"
        intro l hl2
        rw [hf, st] at kk
        refine kk l [t] _ ⟨((sm.trans s3).trans (same_upd ht)).free hl2, ((sm.trans s3).trans (same_upd ht)).trans (same_upd hl2), upd_same, .cons (same_upd hl2 _ _ upd_same) .nil⟩
    · rintro σ H2 ⟨u, v, rfl, sm, hin, hf⟩
      walk_at "st"
      intro l hl2
      rw [hf, show ws.length + 1 - ((ws.length : Int) - 1 - -2).toNat = 0 by omega] at kk
      exact kk l [] _ ⟨sm.free hl2, sm.trans (same_upd hl2), upd_same, .nil⟩

--SPLIT
def spPaper : Sp := fun vs H Q _ => ∃ (a b c : Addr) (ps ws gs : List Int) (hd e : Int), vs = [.ref a, .int hd, .ref b, .int e, .ref c] ∧ H a = some (.lst (iL ps)) ∧ H b = some (.lst (iL ws)) ∧ H c = some (.lst (iL gs)) ∧ isTr ps ∧ stand ps hd ws ∧ stand ps e gs ∧
  ∀ l ts H', NewM H H' l (told ps hd ws e gs) ts → Q (.ref l) H'
theorem ok_paper_of (T : Txt mg) (D : Def K mg "paper_of" s_paper_of) (C_refuse_no_errand : Callee P w K mg base "refuse_no_errand" 5 spRefErr) (C_first_musts : Callee P w K mg base "first_musts" 3 spFirst) (C_is_beyond : Callee P w K mg base "is_beyond" 6 spBeyond) : Callee P w K mg base "paper_of" 7 spPaper := by
  refine D.ok sc_paper_of bd_paper_of (fun vs H Q E h => ?len) (fun f cdv A outer s H vs Q E hr h => ?body)
  case len => obtain ⟨a, b, c, ps, ws, gs, hd, e, rfl, _⟩ := h; rfl
  case body =>
    obtain ⟨a, b, c, ps, ws, gs, hd, e, rfl, hA, hB, hC, ht, hs, hg, k⟩ := h
    have h12 := ht.2.1
    have hwl := hs.1
    have hgl := hg.1
    refine ⟨_, (pss_cons (ps_expr (pe_callN C_refuse_no_errand (hr.mono (by decide)) (by rfl) (pa_cons (pv 0) (pa_cons (pv 1) (pa_cons (pv 2) (pa_cons (pv 3) (pa_cons (pv 4) pa_nil)))))))
 (pss_cons (ps_set (i := 5) sc_paper_of.nd rfl (Or.inl rfl) (pe_callN C_first_musts (hr.mono (by decide)) (by rfl) (pa_cons (pv 1) (pa_cons (pv 2) (pa_cons (pv 3) (pa_cons (pv 4) pa_nil))))))
 (pss_cons (ps_if (pt_not (pt_truthK K (pv 5)))
 (pss_one (ps_ret (pv 5)))
 pss_nil)
 (pss_cons (ps_set (i := 6) sc_paper_of.nd rfl (Or.inl rfl) (pe_ix (ix_K K) (pv 5) pe_int (by exact fun _ _ => rfl)))
 (pss_cons (ps_for PassesOwn.never rfl (pi_range3 (by rfl) T.z_range (pa_cons (pe_op op_sub (pe_ix (ix_K K) (pv 6) pe_int (by exact fun _ _ => rfl)) pe_int) (pa_cons (pe_negK (r := -2) (by decide)) (pa_cons (pe_negK (r := -1) (by decide)) pa_nil)))) (pg_name (i := 7) sc_paper_of.nd rfl (Or.inl rfl))
 (pss_one (ps_if (pt_truthK K (pe_callN C_is_beyond (hr.mono (by decide)) (by rfl) (pa_cons (pv 0) (pa_cons (pv 3) (pa_cons (pv 4) (pa_cons (pv 6) (pa_cons (pv 7) pa_nil)))))))
 (pss_cons (ps_set (i := 6) sc_paper_of.nd rfl (Or.inl rfl) (pe_tup (pa_cons (pv 7) (pa_cons (pe_un un_neg (pe_ix (ix_K K) (pv 6) pe_int (by exact fun _ _ => rfl))) pa_nil))))
 (pss_one (ps_expr (pe_bmK K PySem.F.plainAttrs_list PySem.F.slot_list_append PySem.F.type_list_append mt_append (pv 5) (pa_cons (pv 6) pa_nil)))))
 pss_nil)))
 (pss_one (ps_ret (pv 5)))))))), ?_⟩
    dsimp only [tSeq, tAsg, gName, tOp, tUn, tTest, tB, tAnd, tOr, tNot, tAndV, tOrV, tNotV, tIf, tIfS, tRet, tRetN, tDrop, tNext, tCons, tNil, tCB, tCall, tMenu, tComp, tDComp, tDGet, iZip2, iEnum, tNoIf, tTru, tJoin, cxOf_K, tLst, tTup, tSl, tPart, tNoPart, tBM, tBM0, tChain, tC, tFor_eq, gTup, gLst, gCons, gNil, gSub, iList, iRng1, iRng2, iRng3, iTup, iZip3, tWhile, tDelS, tBreak, tCont, tRev, tRaise, tCallS, tTry, tAug, tPar, tNever, ipI, List.append_nil]
    walk_at "st"
    refine ⟨a, b, c, ps, ws, gs, hd, e, rfl, hA, hB, hC, ht, hs, hg, fun H1 s1 => ?_⟩
    walk_at "st"
    refine ⟨b, c, ws, gs, hd, e, rfl, s1 _ _ hB, s1 _ _ hC, by omega, by omega, fun l ts H2 N => ?_⟩
    walk_at "st"
    refine i_truL (SqL.of N.at_) ?_
    have N0 : NewM H H2 l _ ts := ⟨s1.free N.fr, s1.trans N.sm, N.at_, N.it⟩
    clear N
    unfold told paper at k
    rw [← hwl] at k
    rcases fm_spec (F := pc ws hd) (G := pc gs e) ws.length with ⟨e1, q⟩ | ⟨w0, e1, z1, z2, z3, z4⟩
    · rw [e1] at k N0
      have hts : ts = [] := by have := N0.it; cases this; rfl
      subst hts
      refine ifT (by rfl) ?_
      walk_at "st"
      exact k l [] H2 N0
    · rw [e1] at k N0
      simp only [] at k
      obtain ⟨t0, rfl, ht0⟩ : ∃ t0, ts = [t0] ∧ H2 t0 = some (.tup [.int w0, .int (sgn (pc ws hd) (pc gs e) w0)]) := by
        have := N0.it
        cases this with
        | cons h1 h2 => cases h2; exact ⟨_, rfl, h1⟩
      have hs0 : sgn (pc ws hd) (pc gs e) w0 = 1 ∨ sgn (pc ws hd) (pc gs e) w0 = -1 := by unfold sgn; split <;> simp
      rw [rr_of _ _ _ z1] at k
      generalize sgn (pc ws hd) (pc gs e) w0 = s0 at *
      refine ifF (by rfl) ?_
      walk_at "st"
      refine i_ixN (SqL.of N0.at_) (by decide) (v := .ref t0) rfl ?_
      walk_at "st"
      refine i_ixT (SqT.of ht0) (by decide) rfl ?_
      walk_at "st"
      refine ⟨_, _, rfl, ⟨by omega, by omega, by omega, by omega⟩, lp_down (fun i σ H3 => ∃ (u : Option V) (t : Addr) (m : Must) (ms : List Must) (ts : List Addr), σ = [some (.ref a), some (.int hd), some (.ref b), some (.int e), some (.ref c), some (.ref l), some (.ref t), u] ∧ NewM H H3 l ms ts ∧ ms.length ≤ i + 1 ∧ H3 t = some (.tup [.int m.1, .int m.2]) ∧ okMust ps.length m ∧
        (w0, s0) :: rr (pc (depths 0 ps) 0) (pc gs e) (w0 + 1).toNat (w0, s0) = ms ++ rr (pc (depths 0 ps) 0) (pc gs e) ((w0 + 1).toNat - i) m) ?_ ?_ ?_⟩
      · exact ⟨_, t0, (w0, s0), [(w0, s0)], [t0], rfl, N0, by simp, ht0, ⟨z1, by simp only; omega, hs0⟩, rfl⟩
      · rintro i σ H3 hi ⟨u, t, m, ms, ts, rfl, N, hml, hT, hm, heq⟩
        have st := rr_step (pc (depths 0 ps) 0) (pc gs e) ((w0 + 1).toNat - i - 1) m
        rw [show (w0 + 1).toNat - i - 1 + 1 = (w0 + 1).toNat - i by omega, show (((w0 + 1).toNat - i - 1 : Nat) : Int) - 1 = w0 - 1 - i by omega] at st
        walk_at "st"
        have hw1 : -1 ≤ w0 - 1 - (i : Int) := by omega
        have hw2 : w0 - 1 - (i : Int) < ps.length := by omega
        generalize w0 - 1 - (i : Int) = wh at *
        refine ⟨a, c, t, ps, gs, e, wh, m, rfl, N.sm _ _ hA, N.sm _ _ hC, hT, ht, hg, hm, hw1, hw2, fun H4 s4 => ?_⟩
        walk_at "st"
        refine i_if (fun gq => ?_) (fun gq => ?_)
        · rw [if_pos gq] at st
          walk_at "st"
          refine i_ixT (SqT.of (s4 _ _ hT)) (by decide) rfl ?_
          walk_at "st"
          intro t2 ht2
          have N2 := (N.more s4).more (same_upd (o := .tup [.int wh, .int (-m.2)]) ht2)
          have hlen : ts.length ≤ 100 := by rw [N.it.length]; omega
          walk_at "st"
          refine ⟨.inl ⟨rfl, _, SqL.of N2.at_⟩, ?_⟩
          walk_at "st"
          refine i_app N2.at_ (szlt (by simp; omega)) ?_
          have e2 : upd H4 t2 (.tup [.int wh, .int (-m.2)]) t2 = some (.tup [.int wh, .int (-m.2)]) := upd_same
          refine ⟨_, t2, (wh, -m.2), ms ++ [(wh, -m.2)], ts ++ [t2], rfl, N2.app (m := (wh, -m.2)) e2, by simp; omega, ?_, ⟨hw1, hw2, by have := hm.2.2; simp only; omega⟩, ?_⟩
          · have : t2 ≠ l := fun z => by
              have q := N2.at_
              rw [← z, e2] at q; cases q
            rw [upd_ne this]; exact e2
          · rw [heq, st, show (w0 + 1).toNat - i - 1 = (w0 + 1).toNat - (i + 1) by omega]; simp
        · rw [if_neg gq] at st
          refine ⟨_, t, m, ms, ts, rfl, N.more s4, by omega, s4 _ _ hT, hm, ?_⟩
          rw [heq, st, show (w0 + 1).toNat - i - 1 = (w0 + 1).toNat - (i + 1) by omega]
      · rintro σ H3 ⟨u, t, m, ms, ts, rfl, N, hml, hT, hm, heq⟩
        walk_at "st"
        rw [show (w0 + 1).toNat - (w0 - 1 - -2).toNat = 0 by omega] at heq
        rw [heq] at k
        simp only [rr, List.append_nil] at k
        exact k l ts H3 N

theorem chain_ok {n : Nat} {D G : Fn} : ∀ {ms : List Must} {a : Must}, chain n D G a ms → ∀ m ∈ ms, okMust n m
  | m :: ms, a, h, x, hx => by
    rcases List.mem_cons.mp hx with e | e
    · subst e; exact h.1
    · exact chain_ok h.2.2 x e
theorem isPap_ok {n : Nat} {D F G : Fn} : ∀ {ms : List Must}, isPap n D F G ms → ∀ m ∈ ms, okMust n m
  | m :: ms, h, x, hx => by
    rcases List.mem_cons.mp hx with e | e
    · subst e; exact h.1
    · exact chain_ok h.2.2 x e

def spLeastRow : Sp := fun vs H Q _ => ∃ (a b c : Addr) (ps ws gs : List Int) (hd e : Int), vs = [.ref a, .int hd, .ref b, .int e, .ref c] ∧ H a = some (.lst (iL ps)) ∧ H b = some (.lst (iL ws)) ∧ H c = some (.lst (iL gs)) ∧ isTr ps ∧ stand ps hd ws ∧ stand ps e gs ∧
  ∀ l H', NewI H H' l (toldRow ps hd ws e gs) → Q (.ref l) H'
theorem ok_least_row (T : Txt mg) (D : Def K mg "least_row" s_least_row) (C_paper_of : Callee P w K mg base "paper_of" 7 spPaper) (C_must_place : Callee P w K mg base "must_place" 5 spMustPlace) : Callee P w K mg base "least_row" 8 spLeastRow := by
  refine D.ok sc_least_row bd_least_row (fun vs H Q E h => ?len) (fun f cdv A outer s H vs Q E hr h => ?body)
  case len => obtain ⟨a, b, c, ps, ws, gs, hd, e, rfl, _⟩ := h; rfl
  case body =>
    obtain ⟨a, b, c, ps, ws, gs, hd, e, rfl, hA, hB, hC, ht, hs, hg, k⟩ := h
    have h12 := ht.2.1
    refine ⟨_, (pss_cons (ps_set (i := 5) sc_least_row.nd rfl (Or.inl rfl) (pe_callN C_paper_of (hr.mono (by decide)) (by rfl) (pa_cons (pv 0) (pa_cons (pv 1) (pa_cons (pv 2) (pa_cons (pv 3) (pa_cons (pv 4) pa_nil)))))))
 (pss_one (ps_ret (by exact pe_comp (N := ["must", "plays", "end", "goal"]) (fr := [none, some 0, some 3, some 4]) ⟨by rfl, by decide +kernel, by decide +kernel, (show ∀ y ∈ (_ : List (Str × NameKind)), y.2 = NameKind.free → (defScope s_least_row).names.lookup y.1 = some .cell ∨ (defScope s_least_row).names.lookup y.1 = some .free by decide +kernel), (fr_none (fr_some (by rfl) (by first | exact Or.inl rfl | exact Or.inr rfl) (by rfl) (fr_some (by rfl) (by first | exact Or.inl rfl | exact Or.inr rfl) (by rfl) (fr_some (by rfl) (by first | exact Or.inl rfl | exact Or.inr rfl) (by rfl) fr_nil))))⟩ (by rfl) (pi_listK K (pv 5)) (fun _ _ _ _ => (pg_name (i := 0) (show List.Nodup (["must", "plays", "end", "goal"] : List Str) by decide) (by rfl) (by first | exact Or.inl rfl | exact Or.inr rfl))) (fun _ _ _ _ => pifs_nil) (fun _ _ _ _ => (pe_callN C_must_place (hr.mono (by decide)) (by rfl) (pa_cons (pv 1) (pa_cons (pv 2) (pa_cons (pv 3) (pa_cons (pv 0) pa_nil)))))) (gw_name (by rfl)))))), ?_⟩
    dsimp only [tSeq, tAsg, gName, tOp, tUn, tTest, tB, tAnd, tOr, tNot, tAndV, tOrV, tNotV, tIf, tIfS, tRet, tRetN, tDrop, tNext, tCons, tNil, tCB, tCall, tMenu, tComp, tDComp, tDGet, iZip2, iEnum, tNoIf, tTru, tJoin, cxOf_K, tLst, tTup, tSl, tPart, tNoPart, tBM, tBM0, tChain, tC, tFor_eq, gTup, gLst, gCons, gNil, gSub, iList, iRng1, iRng2, iRng3, iTup, iZip3, tWhile, tDelS, tBreak, tCont, tRev, tRaise, tCallS, tTry, tAug, tPar, tNever, ipI, List.append_nil]
    walk_at "st"
    refine ⟨a, b, c, ps, ws, gs, hd, e, rfl, hA, hB, hC, ht, hs, hg, fun l ts H1 N => ?_⟩
    walk_at "st"
    have hpl : (told ps hd ws e gs).length ≤ ps.length + 1 := paper_length
    have htl : ts.length ≤ 13 := by rw [N.it.length]; omega
    have hok := isPap_ok (paper_isPap (n := ps.length) (D := pc (depths 0 ps) 0) (F := pc ws hd) (G := pc gs e))
    refine ⟨⟨_, SqL.of N.at_⟩, cp_list (xs := ts.map V.ref) (fun i ys H2 => ys = iL ((toldRow ps hd ws e gs).take i) ∧ i ≤ ts.length ∧ Same H1 H2) ⟨by simp, Nat.zero_le _, Same.refl _⟩ ?_ (szlt (by simp; omega)) ?_ ?_⟩
    · rintro i ys H2 ⟨rfl, hi, sm⟩
      exact ⟨SqL.of (sm _ _ N.at_), by simp [iL]; omega⟩
    · rintro i x ys H2 hx ⟨rfl, hi, sm⟩
      rw [List.getElem?_map] at hx
      obtain ⟨t, hti, rfl⟩ := Option.map_eq_some_iff.mp hx
      obtain ⟨m, hmi, hT⟩ := paired_getL N.it hti
      have hil : i < ts.length := (List.getElem?_eq_some_iff.mp hti).1
      walk_at "st"
      refine ⟨a, c, t, ps, gs, e, m, rfl, sm _ _ (N.sm _ _ hA), sm _ _ (N.sm _ _ hC), sm _ _ hT, ht, hg, hok m (List.mem_of_getElem? hmi), fun H3 s3 => ?_⟩
      refine ⟨?_, by omega, sm.trans s3⟩
      have : (toldRow ps hd ws e gs)[i]? = some (mp (pc (depths 0 ps) 0) (pc gs e) m) := by
        unfold toldRow; rw [List.getElem?_map, hmi]; rfl
      rw [List.take_add_one, this]
      simp [iL]
    · rintro l2 ys H2 ⟨rfl, hi, sm⟩ hl2
      have e1 : (ts.map V.ref).length = (toldRow ps hd ws e gs).length := by unfold toldRow; rw [List.length_map, List.length_map, N.it.length]
      rw [e1, List.take_of_length_le (Nat.le_refl _)]
      have sA := N.sm.trans sm
      exact k l2 _ ⟨sA.free hl2, sA.trans (same_upd hl2), upd_same⟩

--SPLIT
def spWay : Sp := fun vs H Q _ => ∃ (a : Addr) (xs : List Int), vs = [.ref a] ∧ H a = some (.lst (iL xs)) ∧ xs.length ≤ 50000 ∧ ∀ H', Same H H' → Q (.int (wayL xs)) H'
theorem way_step {xs : List Int} {i : Nat} {x y : Int} (hx : xs[i]? = some x) (hy : xs[i + 1]? = some y) : wayL (xs.drop i) = ab (y - x) + wayL (xs.drop (i + 1)) := by
  rw [dropc hx, dropc hy, wayL_two]
theorem ok_way_of (T : Txt mg) (D : Def K mg "way_of" s_way_of) : Callee P w K mg base "way_of" 1 spWay := by
  refine D.ok sc_way_of bd_way_of (fun vs H Q E h => ?len) (fun f cdv A outer s H vs Q E hr h => ?body)
  case len => obtain ⟨a, xs, rfl, _⟩ := h; rfl
  case body =>
    obtain ⟨a, xs, rfl, hA, hl, k⟩ := h
    refine ⟨_, (pss_one (ps_ret (pe_callB (call_sumK K) (by rfl) T.z_sum bt_sum (pa_cons (by exact pe_comp (N := ["ahead", "here"]) (fr := [none, none]) ⟨by rfl, by decide +kernel, by decide +kernel, (show ∀ y ∈ (_ : List (Str × NameKind)), y.2 = NameKind.free → (defScope s_way_of).names.lookup y.1 = some .cell ∨ (defScope s_way_of).names.lookup y.1 = some .free by decide +kernel), (fr_none (fr_none fr_nil))⟩ (by rfl) (pi_zip2K K (by rfl) T.z_zip (pa_cons (pv 0) (pa_cons (pe_slice (sl_listK K) (pv 0) (po_some pe_int) po_none) pa_nil))) (fun _ _ _ _ => (pg_tupK K 2 (pgs_cons (pg_name (i := 0) (show List.Nodup (["ahead", "here"] : List Str) by decide) (by rfl) (by first | exact Or.inl rfl | exact Or.inr rfl)) (pgs_cons (pg_name (i := 1) (show List.Nodup (["ahead", "here"] : List Str) by decide) (by rfl) (by first | exact Or.inl rfl | exact Or.inr rfl)) pgs_nil)))) (fun _ _ _ _ => pifs_nil) (fun _ _ _ _ => (pe_callB call_absK (by rfl) T.z_abs bt_abs (pa_cons (pe_op op_sub (pv 1) (pv 0)) pa_nil))) (gw_tup (gws_cons (gw_name (by rfl)) (gws_cons (gw_name (by rfl)) gws_nil)))) pa_nil)))), ?_⟩
    dsimp only [tSeq, tAsg, gName, tOp, tUn, tTest, tB, tAnd, tOr, tNot, tAndV, tOrV, tNotV, tIf, tIfS, tRet, tRetN, tDrop, tNext, tCons, tNil, tCB, tCall, tMenu, tComp, tDComp, tDGet, iZip2, iEnum, tNoIf, tTru, tJoin, cxOf_K, tLst, tTup, tSl, tPart, tNoPart, tBM, tBM0, tChain, tC, tFor_eq, gTup, gLst, gCons, gNil, gSub, iList, iRng1, iRng2, iRng3, iTup, iZip3, tWhile, tDelS, tBreak, tCont, tRev, tRaise, tCallS, tTry, tAug, tPar, tNever, ipI, List.append_nil]
    walk_at "st"
    refine i_slFrom (SqL.of hA) (by decide) (fun p hp => ?_)
    have s1 : Same H _ := same_upd (o := .lst (iL (xs.drop (1 : Int).toNat))) hp
    have e1 : upd H p (.lst (iL (xs.drop (1 : Int).toNat))) p = some (.lst (iL (xs.drop 1))) := upd_same
    generalize upd H p (.lst (iL (xs.drop (1 : Int).toNat))) = H1 at *
    walk_at "st"
    refine ⟨_, _, rfl, ⟨_, SqL.of (s1 _ _ hA)⟩, ⟨_, SqL.of e1⟩, cp_zip (xs := iL xs) (ys := iL (xs.drop 1)) (fun i zs H2 => ∃ ds : List Int, zs = iL ds ∧ ds.length = i ∧ Same H1 H2 ∧ ds.sum + wayL (xs.drop i) = wayL xs) ⟨[], rfl, rfl, Same.refl _, by simp⟩ ?_ (szlt (by simp [iL]; omega)) ?_ ?_⟩
    · rintro i zs H2 ⟨ds, rfl, hd, sm, _⟩
      exact ⟨SqL.of (sm _ _ (s1 _ _ hA)), SqL.of (sm _ _ e1), by simp [iL]; omega⟩
    · rintro i x y t zs H2 hx hy ⟨ds, rfl, hd, sm, hw⟩ ht
      rw [List.getElem?_map] at hx hy
      obtain ⟨x1, hx1, rfl⟩ := Option.map_eq_some_iff.mp hx
      obtain ⟨y1, hy1, rfl⟩ := Option.map_eq_some_iff.mp hy
      rw [List.getElem?_drop, Nat.add_comm] at hy1
      walk_at "st"
      refine ⟨_, _, rfl, SqT.of upd_same, rfl, _, _, rfl, _, _, rfl, rfl, ?_⟩
      walk_at "st"
      refine ⟨ds ++ [ab (y1 - x1)], by simp [iL, ab], by simp; omega, sm.trans (same_upd ht), ?_⟩
      rw [way_step hx1 hy1] at hw
      simp; omega
    · rintro l zs H2 ⟨ds, rfl, hd, sm, hw⟩ hl2
      refine i_sum (SqL.of upd_same) ?_
      rw [wayL_short (by simp [iL]; omega)] at hw
      rw [show ds.sum = wayL xs by omega]
      exact k _ ((s1.trans sm).trans (same_upd hl2))

def spLeastOf : Sp := fun vs H Q _ => ∃ (a b c : Addr) (ps ws gs : List Int) (hd e : Int), vs = [.ref a, .int hd, .ref b, .int e, .ref c] ∧ H a = some (.lst (iL ps)) ∧ H b = some (.lst (iL ws)) ∧ H c = some (.lst (iL gs)) ∧ isTr ps ∧ stand ps hd ws ∧ stand ps e gs ∧
  ∀ H', Same H H' → Q (.int (way hd (toldRow ps hd ws e gs))) H'
theorem toldRow_length {ps ws gs : List Int} {hd e : Int} : (toldRow ps hd ws e gs).length ≤ ps.length + 1 := by
  unfold toldRow; rw [List.length_map]; exact paper_length
theorem ok_least_of (T : Txt mg) (D : Def K mg "least_of" s_least_of) (C_way_of : Callee P w K mg base "way_of" 1 spWay) (C_least_row : Callee P w K mg base "least_row" 8 spLeastRow) : Callee P w K mg base "least_of" 9 spLeastOf := by
  refine D.ok sc_least_of bd_least_of (fun vs H Q E h => ?len) (fun f cdv A outer s H vs Q E hr h => ?body)
  case len => obtain ⟨a, b, c, ps, ws, gs, hd, e, rfl, _⟩ := h; rfl
  case body =>
    obtain ⟨a, b, c, ps, ws, gs, hd, e, rfl, hA, hB, hC, ht, hs, hg, k⟩ := h
    have h12 := ht.2.1
    have hrl : (toldRow ps hd ws e gs).length ≤ ps.length + 1 := toldRow_length
    refine ⟨_, (pss_one (ps_ret (pe_callN C_way_of (hr.mono (by decide)) (by rfl) (pa_cons (pe_op op_addP (pe_lst (pa_cons (pv 1) pa_nil)) (pe_callN C_least_row (hr.mono (by decide)) (by rfl) (pa_cons (pv 0) (pa_cons (pv 1) (pa_cons (pv 2) (pa_cons (pv 3) (pa_cons (pv 4) pa_nil))))))) pa_nil)))), ?_⟩
    dsimp only [tSeq, tAsg, gName, tOp, tUn, tTest, tB, tAnd, tOr, tNot, tAndV, tOrV, tNotV, tIf, tIfS, tRet, tRetN, tDrop, tNext, tCons, tNil, tCB, tCall, tMenu, tComp, tDComp, tDGet, iZip2, iEnum, tNoIf, tTru, tJoin, cxOf_K, tLst, tTup, tSl, tPart, tNoPart, tBM, tBM0, tChain, tC, tFor_eq, gTup, gLst, gCons, gNil, gSub, iList, iRng1, iRng2, iRng3, iTup, iZip3, tWhile, tDelS, tBreak, tCont, tRev, tRaise, tCallS, tTry, tAug, tPar, tNever, ipI, List.append_nil]
    walk_at "st"
    intro g hg1
    have s2 : Same H _ := same_upd (o := .lst [V.int hd]) hg1
    have e2 : upd H g (.lst [V.int hd]) g = some (.lst [V.int hd]) := upd_same
    generalize upd H g (.lst [V.int hd]) = H2 at *
    walk_at "st"
    refine ⟨a, b, c, ps, ws, gs, hd, e, rfl, s2 _ _ hA, s2 _ _ hB, s2 _ _ hC, ht, hs, hg, fun l H3 N3 => ?_⟩
    refine i_addL (xs := [V.int hd]) (ys := iL (toldRow ps hd ws e gs)) (N3.sm _ _ e2) N3.at_ (by simp [iL]; exact szl (by omega)) (fun l5 hl5 => ?_)
    refine ⟨l5, hd :: toldRow ps hd ws e gs, rfl, by rw [upd_same]; rfl, by simp; omega, fun H6 s6 => ?_⟩
    exact k _ (((s2.trans N3.sm).trans (same_upd hl5)).trans s6)

abbrev pM (m : Must) : PyData := .tuple [.int m.1, .int m.2]
theorem pd_musts {H : Hp} {n : Nat} : ∀ {ts : List Addr} {ms : List Must}, MsAt H ts ms → Paired (PdAt K H (n + 1)) (ms.map pM) (ts.map V.ref)
  | _, _, .nil => .nil
  | _, _, .cons h t => .cons (pd_tup (SqT.of h) (.cons pd_int (.cons pd_int .nil))) (pd_musts t)
theorem paired_app {α β : Type} {F : α → β → Prop} : ∀ {as cs : List α} {bs ds : List β}, Paired F as bs → Paired F cs ds → Paired F (as ++ cs) (bs ++ ds)
  | _, _, _, _, .nil, h => h
  | _, _, _, _, .cons r t, h => .cons r (paired_app t h)

--SPLIT
def isSw : List Int → Bool
  | [a, b, c, d] => decide (ab (c - b) ≤ ab (b - a)) && decide (ab (c - b) ≤ ab (d - c))
  | _ => false
def hasSw (pile : List Int) : Bool := isSw (pile.drop (pile.length - 4))
theorem hasSw_short {pile : List Int} (h : pile.length < 4) : hasSw pile = false := by
  unfold hasSw
  match pile, h with
  | [], _ => rfl
  | [_], _ => rfl
  | [_, _], _ => rfl
  | [_, _, _], _ => rfl
  | _ :: _ :: _ :: _ :: _, h => simp at h; omega
theorem hasSw_four {A : List Int} {a b c d : Int} : hasSw (A ++ [a, b, c, d]) = (decide (ab (c - b) ≤ ab (b - a)) && decide (ab (c - b) ≤ ab (d - c))) := by
  unfold hasSw
  rw [show (A ++ [a, b, c, d]).length - 4 = A.length by simp, List.drop_left]
  rfl
theorem four_of {pile : List Int} (h : ¬ pile.length < 4) : ∃ A a b c d, pile = A ++ [a, b, c, d] := by
  have e := List.take_append_drop (pile.length - 4) pile
  have hl : (pile.drop (pile.length - 4)).length = 4 := by rw [List.length_drop]; omega
  match hq : pile.drop (pile.length - 4), hl with
  | [a, b, c, d], _ => exact ⟨_, a, b, c, d, by rw [hq] at e; exact e.symm⟩
def spHasSw : Sp := fun vs H Q _ => ∃ (a : Addr) (pile : List Int), vs = [.ref a] ∧ H a = some (.lst (iL pile)) ∧ ∀ H', Same H H' → Q (.bl (hasSw pile)) H'
theorem ok_has_swing (T : Txt mg) (D : Def K mg "has_swing" s_has_swing) : Callee P w K mg base "has_swing" 1 spHasSw := by
  refine D.ok sc_has_swing bd_has_swing (fun vs H Q E h => ?len) (fun f cdv A outer s H vs Q E hr h => ?body)
  case len => obtain ⟨a, pile, rfl, _⟩ := h; rfl
  case body =>
    obtain ⟨a, pile, rfl, hA, k⟩ := h
    have hu := hr.units
    refine ⟨_, (pss_cons (ps_if (pt_cmpR op_lt (pe_callB (call_lenK K) (by rfl) T.z_len bt_len (pa_cons (pv 0) pa_nil)) pe_int (nomark _))
 (pss_one (ps_ret pe_bl))
 pss_nil)
 (pss_cons (ps_asg (pe_slice (sl_listK K) (pv 0) (po_some (pe_negK (r := -4) (by decide))) po_none) (pg_lstK K 4 (pgs_cons (pg_name (i := 1) sc_has_swing.nd rfl (Or.inl rfl)) (pgs_cons (pg_name (i := 2) sc_has_swing.nd rfl (Or.inl rfl)) (pgs_cons (pg_name (i := 3) sc_has_swing.nd rfl (Or.inl rfl)) (pgs_cons (pg_name (i := 4) sc_has_swing.nd rfl (Or.inl rfl)) pgs_nil))))))
 (pss_cons (ps_set (i := 5) sc_has_swing.nd rfl (Or.inl rfl) (pe_callB call_absK (by rfl) T.z_abs bt_abs (pa_cons (pe_op op_sub (pv 3) (pv 2)) pa_nil)))
 (pss_one (ps_ret (pe_and (pe_cmpR op_le (pv 5) (pe_callB call_absK (by rfl) T.z_abs bt_abs (pa_cons (pe_op op_sub (pv 2) (pv 1)) pa_nil)) (nomark _)) (pe_one (pe_cmpR op_le (pv 5) (pe_callB call_absK (by rfl) T.z_abs bt_abs (pa_cons (pe_op op_sub (pv 4) (pv 3)) pa_nil)) (nomark _))))))))), ?_⟩
    dsimp only [tSeq, tAsg, gName, tOp, tUn, tTest, tB, tAnd, tOr, tNot, tAndV, tOrV, tNotV, tIf, tIfS, tRet, tRetN, tDrop, tNext, tCons, tNil, tCB, tCall, tMenu, tComp, tDComp, tDGet, iZip2, iEnum, tNoIf, tTru, tJoin, cxOf_K, tLst, tTup, tSl, tPart, tNoPart, tBM, tBM0, tChain, tC, tFor_eq, gTup, gLst, gCons, gNil, gSub, iList, iRng1, iRng2, iRng3, iTup, iZip3, tWhile, tDelS, tBreak, tCont, tRev, tRaise, tCallS, tTry, tAug, tPar, tNever, ipI, List.append_nil]
    walk_at "st"
    refine i_lenI (SqL.of hA) ?_
    walk_at "st"
    refine i_if (fun g => ?_) (fun g => ?_)
    · walk_at "st"
      rw [hasSw_short (by omega)] at k
      exact k H (Same.refl _)
    · obtain ⟨A, p1, p2, p3, p4, rfl⟩ := four_of (show ¬ pile.length < 4 by omega)
      rw [hasSw_four] at k
      walk_at "st"
      refine i_slEnd4 (A := iL A) (a := .int p1) (b := .int p2) (c := .int p3) (d := .int p4) (SqL.of (by rw [hA]; simp [iL])) (fun l hl => ?_)
      have s1 : Same H _ := same_upd (o := .lst [.int p1, .int p2, .int p3, .int p4]) hl
      have e1 : upd H l (.lst [.int p1, .int p2, .int p3, .int p4]) l = some (.lst [.int p1, .int p2, .int p3, .int p4]) := upd_same
      generalize upd H l (.lst [.int p1, .int p2, .int p3, .int p4]) = H1 at *
      walk_at "st"
      refine ⟨_, _, rfl, SqL.of e1, rfl, _, _, rfl, _, _, rfl, _, _, rfl, _, _, rfl, rfl, ?_⟩
      walk_at "st"
      refine i_if (fun g2 => ?_) (fun g2 => ?_)
      · walk_at "st"
        have q := k H1 s1
        rw [decide_eq_true (show ab (p3 - p2) ≤ ab (p2 - p1) from g2), Bool.true_and] at q
        exact q
      · walk_at "st"
        have q := k H1 s1
        rw [decide_eq_false (show ¬ ab (p3 - p2) ≤ ab (p2 - p1) from g2), Bool.false_and] at q
        exact q

structure SwSt (H H' : Hp) (l1 l2 lt : Addr) (T : List Int) (ts : List Addr) (prs : List (Int × Int)) (pile : List Int) : Prop where
  sm : Same H H'
  a1 : H' l1 = some (.lst (ts.map V.ref))
  it : MsAt H' ts prs
  a2 : H' l2 = some (.lst (iL pile))
  a3 : H' lt = some (.lst (iL T))
  f1 : H l1 = none
  f2 : H l2 = none
  n12 : l1 ≠ l2
  n13 : lt ≠ l1
  n23 : lt ≠ l2
theorem SwSt.more {H H' H2 : Hp} {l1 l2 lt : Addr} {T : List Int} {ts : List Addr} {prs : List (Int × Int)} {pile : List Int} (S : SwSt H H' l1 l2 lt T ts prs pile) (s : Same H' H2) : SwSt H H2 l1 l2 lt T ts prs pile :=
  ⟨S.sm.trans s, s _ _ S.a1, S.it.more s, s _ _ S.a2, s _ _ S.a3, S.f1, S.f2, S.n12, S.n13, S.n23⟩
theorem SwSt.pl {H H' : Hp} {l1 l2 lt : Addr} {T : List Int} {ts : List Addr} {prs : List (Int × Int)} {pile pile' : List Int} (S : SwSt H H' l1 l2 lt T ts prs pile) {vs : List V} (e : vs = iL pile') : SwSt H (upd H' l2 (.lst vs)) l1 l2 lt T ts prs pile' := by
  subst e
  exact ⟨fun b o z => by rw [upd_ne (ne_of_none z S.f2)]; exact S.sm b o z, by rw [upd_ne S.n12]; exact S.a1, S.it.up S.a2, upd_same, by rw [upd_ne S.n23]; exact S.a3, S.f1, S.f2, S.n12, S.n13, S.n23⟩
theorem SwSt.ad {H H' : Hp} {l1 l2 lt t : Addr} {T : List Int} {ts : List Addr} {prs : List (Int × Int)} {pile : List Int} {m : Int × Int} (S : SwSt H H' l1 l2 lt T ts prs pile) (e : H' t = some (.tup [.int m.1, .int m.2])) : SwSt H (upd H' l1 (.lst (ts.map V.ref ++ [V.ref t]))) l1 l2 lt T (ts ++ [t]) (prs ++ [m]) pile := by
  have : t ≠ l1 := fun z => by rw [z, S.a1] at e; cases e
  exact ⟨fun b o z => by rw [upd_ne (ne_of_none z S.f1)]; exact S.sm b o z, by rw [upd_same]; simp, Paired.snoc (S.it.up S.a1) (by rw [upd_ne this]; exact e), by rw [upd_ne S.n12.symm]; exact S.a2, by rw [upd_ne S.n13]; exact S.a3, S.f1, S.f2, S.n12, S.n13, S.n23⟩
def spSwings (K : PySem.W.Frag) : Sp := fun vs H Q _ => ∃ (a : Addr) (row : List Int), vs = [.ref a] ∧ SqL K H a (iL row) ∧ row.length ≤ 20000 ∧
  ∀ (t ls lf : Addr) (ts : List Addr) (ps : List (Int × Int)) (lx : List Int) H', Same H H' → H' t = some (.tup [.ref ls, .ref lf]) → H' ls = some (.lst (ts.map V.ref)) → MsAt H' ts ps → H' lf = some (.lst (iL lx)) → ps.length ≤ row.length → lx.length ≤ row.length → SwOk row ps lx → (lx, ps) = swF (turn (moves row)) [] [] → (∀ t ∈ ts, H t = none) → Q (.ref t) H'
def SwInv (T : List Int) (i : Nat) (pile : List Int) (prs : List (Int × Int)) : Prop := altL (pile ++ T.drop i) ∧ pile.length + 2 * prs.length = i ∧ ∀ d a, 0 ≤ d → gw d a T = gw d a (pile ++ T.drop i) + 2 * sws d prs
theorem hasSw_eq (L : List Int) : hasSw L = hasS L := by
  unfold hasSw hasS
  match L.drop (L.length - 4) with
  | [] => rfl
  | [_] => rfl
  | [_, _] => rfl
  | [_, _, _] => rfl
  | [_, _, _, _] => rfl
  | _ :: _ :: _ :: _ :: _ :: _ => rfl
theorem delS_four (A : List Int) (a b c d : Int) : delS (A ++ [a, b, c, d]) = A ++ [a, d] := by
  unfold delS
  rw [show (A ++ [a, b, c, d]).length = A.length + 4 by simp, show A.length + 4 - 3 = A.length + 1 by omega, show A.length + 4 - 1 = A.length + 3 by omega]
  rw [List.take_append, List.drop_append]
  simp
  rw [List.take_of_length_le (by omega), List.drop_of_length_le (by omega)]
  simp
theorem prS_four (A : List Int) (a b c d : Int) : prS (A ++ [a, b, c, d]) = (min b c, max b c) := by
  unfold prS
  rw [show (A ++ [a, b, c, d]).length = A.length + 4 by simp, show A.length + 4 - 3 = A.length + 1 by omega, show A.length + 4 - 2 = A.length + 2 by omega]
  simp [List.getD_eq_getElem?_getD, List.getElem?_append_right]
theorem ok_swings_of (T : Txt mg) (D : Def K mg "swings_of" s_swings_of) (C_turning_of : Callee P w K mg base "turning_of" 2 (spTurning K)) (C_has_swing : Callee P w K mg base "has_swing" 1 spHasSw) : Callee P w K mg base "swings_of" 3 (spSwings K) := by
  refine D.ok sc_swings_of bd_swings_of (fun vs H Q E h => ?len) (fun f cdv A outer s H vs Q E hr h => ?body)
  case len => obtain ⟨a, row, rfl, _⟩ := h; rfl
  case body =>
    obtain ⟨a, row, rfl, hA, hrow, k⟩ := h
    have hu := hr.units
    refine ⟨_, (pss_cons (ps_set (i := 1) sc_swings_of.nd rfl (Or.inl rfl) (pe_lst pa_nil))
 (pss_cons (ps_set (i := 2) sc_swings_of.nd rfl (Or.inl rfl) (pe_lst pa_nil))
 (pss_cons (ps_for PassesOwn.never rfl (pi_listK K (pe_callN C_turning_of (hr.mono (by decide)) (by rfl) (pa_cons (pv 0) pa_nil))) (pg_name (i := 3) sc_swings_of.nd rfl (Or.inl rfl))
 (pss_cons (ps_expr (pe_bmK K PySem.F.plainAttrs_list PySem.F.slot_list_append PySem.F.type_list_append mt_append (pv 2) (pa_cons (pv 3) pa_nil)))
 (pss_one (ps_while PassesOwn.never (pt_truthK K (pe_callN C_has_swing (hr.mono (by decide)) (by rfl) (pa_cons (pv 2) pa_nil)))
 (pss_cons (ps_expr (pe_bmK K PySem.F.plainAttrs_list PySem.F.slot_list_append PySem.F.type_list_append mt_append (pv 1) (pa_cons (pe_tup (pa_cons (pe_callB (call_minK K) (by rfl) T.z_min bt_min (pa_cons (pe_slice (sl_listK K) (pv 2) (po_some (pe_negK (r := -3) (by decide))) (po_some (pe_negK (r := -1) (by decide)))) pa_nil)) (pa_cons (pe_callB (call_maxK K) (by rfl) T.z_max bt_max (pa_cons (pe_slice (sl_listK K) (pv 2) (po_some (pe_negK (r := -3) (by decide))) (po_some (pe_negK (r := -1) (by decide)))) pa_nil)) pa_nil))) pa_nil)))
 (pss_one (ps_delS (pv 2) (po_some (pe_negK (r := -3) (by decide))) (po_some (pe_negK (r := -1) (by decide))))))))))
 (pss_one (ps_ret (pe_tup (pa_cons (pv 1) (pa_cons (pv 2) pa_nil)))))))), ?_⟩
    dsimp only [tSeq, tAsg, gName, tOp, tUn, tTest, tB, tAnd, tOr, tNot, tAndV, tOrV, tNotV, tIf, tIfS, tRet, tRetN, tDrop, tNext, tCons, tNil, tCB, tCall, tMenu, tComp, tDComp, tDGet, iZip2, iEnum, tNoIf, tTru, tJoin, cxOf_K, tLst, tTup, tSl, tPart, tNoPart, tBM, tBM0, tChain, tC, tFor_eq, gTup, gLst, gCons, gNil, gSub, iList, iRng1, iRng2, iRng3, iTup, iZip3, tWhile, tDelS, tBreak, tCont, tRev, tRaise, tCallS, tTry, tAug, tPar, tNever, ipI, List.append_nil]
    walk_at "st"
    intro l1 h1
    walk_at "st"
    intro l2 h2
    have s2 : Same H _ := (same_upd (o := .lst []) h1).trans (same_upd (o := .lst []) h2)
    have n12 : l1 ≠ l2 := fun z => by rw [← z, upd_same] at h2; cases h2
    have e1 : upd (upd H l1 (.lst [])) l2 (.lst []) l1 = some (.lst []) := by rw [upd_ne n12]; exact upd_same
    have e2 : upd (upd H l1 (.lst [])) l2 (.lst []) l2 = some (.lst []) := upd_same
    have f2 : H l2 = none := (same_upd h1).free h2
    generalize upd (upd H l1 (.lst [])) l2 (.lst []) = H2 at *
    walk_at "st"
    refine ⟨a, row, rfl, s2.seq hA, by omega, fun lt H3 N3 => ?_⟩
    have halt := turn_alt row
    have hT : ∀ d a, 0 ≤ d → gw d a (turn (moves row)) = gw d a row := fun d a hd => gw_turn hd row a
    have hTl := turn_length row
    generalize htr : turn (moves row) = tr at *
    walk_at "st"
    refine ⟨⟨_, SqL.of N3.at_⟩, lp_ints (ns := tr) (fun i σ H4 => ∃ (u : Option V) (ts : List Addr) (prs : List (Int × Int)) (pile : List Int), σ = [some (.ref a), some (.ref l1), some (.ref l2), u] ∧ SwSt H H4 l1 l2 lt tr ts prs pile ∧ SwInv tr i pile prs ∧ swF tr [] [] = swF (tr.drop i) pile prs ∧ ∀ t ∈ ts, H t = none) ?_ ?_ ?_ ?_⟩
    · refine ⟨_, [], [], [], rfl, ⟨s2.trans N3.sm, N3.sm _ _ e1, .nil, N3.sm _ _ e2, N3.at_, h1, f2, n12, fun z => ?_, fun z => ?_⟩, ⟨halt, rfl, fun d a hd => ?_⟩, rfl, by simp⟩
      · have q := N3.fr; rw [z, e1] at q; cases q
      · have q := N3.fr; rw [z, e2] at q; cases q
      · simp [sws]
    · rintro i σ H4 _ ⟨u, ts, prs, pile, rfl, S, _⟩
      exact SqL.of S.a3
    · rintro i x σ H4 hx ⟨u, ts, prs, pile, rfl, S, ⟨hi1, hi2, hi3⟩, hsf, hnew⟩
      have hil : i < tr.length := (List.getElem?_eq_some_iff.mp hx).1
      walk_at "st"
      refine ⟨.inl ⟨rfl, _, SqL.of S.a2⟩, ?_⟩
      walk_at "st"
      refine i_app S.a2 (szlt (by simp [iL]; omega)) ?_
      have S5 := S.pl (pile' := pile ++ [x]) (vs := iL pile ++ [.int x]) (by simp [iL])
      generalize upd H4 l2 (.lst (iL pile ++ [.int x])) = H5 at *
      have hI : SwInv tr (i + 1) (pile ++ [x]) prs := by
        refine ⟨?_, by simp; omega, fun d a hd => ?_⟩
        · rw [dropc hx] at hi1; simpa using hi1
        · have := hi3 d a hd
          rw [dropc hx] at this
          simpa using this
      have hsf2 : ∃ n, (pile ++ [x]).length ≤ n ∧ swF tr [] [] = swF (tr.drop (i + 1)) (swW n (pile ++ [x]) prs).1 (swW n (pile ++ [x]) prs).2 := by
        refine ⟨pile.length + 1, by simp, ?_⟩
        rw [hsf, dropc hx]
        rfl
      generalize pile ++ [x] = pile1 at *
      clear hi1 hi2 hi3 S hsf
      walk_at "st"
      refine ⟨fun m σ H6 => ∃ (ts : List Addr) (prs : List (Int × Int)) (pile : List Int), σ = [some (.ref a), some (.ref l1), some (.ref l2), some (.int x)] ∧ SwSt H H6 l1 l2 lt tr ts prs pile ∧ SwInv tr (i + 1) pile prs ∧ m = pile.length ∧ (∃ n, pile.length ≤ n ∧ swF tr [] [] = swF (tr.drop (i + 1)) (swW n pile prs).1 (swW n pile prs).2) ∧ ∀ t ∈ ts, H t = none, ⟨_, ts, prs, pile1, rfl, S5, hI, rfl, hsf2, hnew⟩, ?_⟩
      clear hsf2 hnew
      rintro m σ H6 ⟨ts, prs, pile, rfl, S, hI, rfl, ⟨nf, hnf, hsf⟩, hnew⟩
      walk_at "st"
      refine ⟨l2, pile, rfl, S.a2, fun H7 s7 => ?_⟩
      have S7 := S.more s7
      walk_at "st"
      by_cases hsw : hasSw pile = true
      · rw [if_pos hsw]
        have hsw0 := hsw
        obtain ⟨A, p1, p2, p3, p4, rfl⟩ := four_of (pile := pile) (fun z => by rw [hasSw_short z] at hsw; cases hsw)
        rw [hasSw_four, Bool.and_eq_true, decide_eq_true_eq, decide_eq_true_eq] at hsw
        obtain ⟨hi1, hi2, hi3⟩ := hI
        have hfour := four_up (A := A) (r := tr.drop (i + 1)) (by simpa using hi1) hsw.1 hsw.2
        have hlen : (A ++ [p1, p2, p3, p4]).length = A.length + 4 := by simp
        refine ⟨fun σ H8 => ∃ (ts : List Addr), σ = [some (.ref a), some (.ref l1), some (.ref l2), some (.int x)] ∧ SwSt H H8 l1 l2 lt tr ts (prs ++ [(min p2 p3, max p2 p3)]) (A ++ [p1, p4]) ∧ ∀ t ∈ ts, H t = none, ?_, ?_⟩
        · rintro σ H8 ⟨ts8, rfl, S8, hn8⟩
          refine ⟨(A ++ [p1, p4]).length, by simp, ts8, _, _, rfl, S8, ⟨?_, by simp at hi2 ⊢; omega, fun d a hd => ?_⟩, rfl, ?_, hn8⟩
          · have := alt_out hfour A (r := tr.drop (i + 1)) (by simpa using hi1)
            simpa using this
          · rw [hi3 d a hd, sws_snoc]
            have := gw_out hd (r := tr.drop (i + 1)) (show (p1 ≤ p3 ∧ p3 ≤ p2 ∧ p2 ≤ p4) ∨ (p4 ≤ p2 ∧ p2 ≤ p3 ∧ p3 ≤ p1) by omega) A a
            simp only [List.append_assoc, List.cons_append, List.nil_append] at this ⊢
            rw [this]
            omega
          · obtain ⟨n', rfl⟩ : ∃ n', nf = n' + 1 := ⟨nf - 1, by rw [hlen] at hnf; omega⟩
            refine ⟨n', by simp at hnf ⊢; omega, ?_⟩
            rw [hasSw_eq] at hsw0
            rw [hsf, swW, if_pos hsw0, delS_four, prS_four]
        · have sq : ∀ {H9 : Hp}, Same H7 H9 → SqL K H9 l2 (iL A ++ [.int p1, .int p2, .int p3, .int p4]) := fun s => SqL.of (by rw [s _ _ S7.a2]; simp [iL])
          walk_at "st"
          refine ⟨.inl ⟨rfl, _, SqL.of S7.a1⟩, ?_⟩
          walk_at "st"
          refine i_slMid2 (sq (Same.refl _)) (fun g1 hg1 => ?_)
          have s8 : Same H7 _ := same_upd (o := .lst [.int p2, .int p3]) hg1
          have e8 : upd H7 g1 (.lst [.int p2, .int p3]) g1 = some (.lst (iL [p2, p3])) := upd_same
          generalize upd H7 g1 (.lst [.int p2, .int p3]) = H8 at *
          refine i_minL (SqL.of e8) (by simp) (fun mn hm1 hm2 => ?_)
          walk_at "st"
          refine i_slMid2 (sq s8) (fun g2 hg2 => ?_)
          have s9 : Same H8 _ := same_upd (o := .lst [.int p2, .int p3]) hg2
          have e9 : upd H8 g2 (.lst [.int p2, .int p3]) g2 = some (.lst (iL [p2, p3])) := upd_same
          generalize upd H8 g2 (.lst [.int p2, .int p3]) = H9 at *
          refine i_maxL (SqL.of e9) (by simp) (fun mx hm3 hm4 => ?_)
          have emn : mn = min p2 p3 := by
            have b1 := hm2 p2 (by simp)
            have b2 := hm2 p3 (by simp)
            have b3 : mn = p2 ∨ mn = p3 := by simpa using hm1
            omega
          have emx : mx = max p2 p3 := by
            have b1 := hm4 p2 (by simp)
            have b2 := hm4 p3 (by simp)
            have b3 : mx = p2 ∨ mx = p3 := by simpa using hm3
            omega
          subst emn emx
          walk_at "st"
          intro t ht
          have S10 := S7.more (s8.trans (s9.trans (same_upd (o := .tup [.int (min p2 p3), .int (max p2 p3)]) ht)))
          have e10 : upd H9 t (.tup [.int (min p2 p3), .int (max p2 p3)]) t = some (.tup [.int (min p2 p3), .int (max p2 p3)]) := upd_same
          generalize upd H9 t (.tup [.int (min p2 p3), .int (max p2 p3)]) = H10 at *
          walk_at "st"
          refine i_app S10.a1 (szlt (by rw [List.length_map, S10.it.length]; simp at hi2; omega)) ?_
          have S11 := S10.ad (m := (min p2 p3, max p2 p3)) e10
          generalize upd H10 l1 _ = H11 at *
          walk_at "st"
          refine ⟨l2, iL (A ++ [p1, p2, p3, p4]), rfl, S11.a2, ?_⟩
          have e12 : delV (iL (A ++ [p1, p2, p3, p4])) (some (-3)) (some (-1)) = iL (A ++ [p1, p4]) := by
            have := del_mid2 (A := iL A) (a := .int p1) (b := .int p2) (c := .int p3) (d := .int p4)
            simpa [iL] using this
          refine ⟨_, rfl, S11.pl e12, fun t' ht' => ?_⟩
          rcases List.mem_append.mp ht' with z | z
          · exact hnew t' z
          · simp at z; subst z; exact (S7.sm.trans (s8.trans s9)).free ht
      · rw [if_neg hsw]
        have e0 : swW nf pile prs = (pile, prs) := by
          cases nf with
          | zero => rfl
          | succ n => rw [swW, if_neg (by rw [← hasSw_eq]; exact hsw)]
        rw [e0] at hsf
        exact ⟨_, ts, prs, pile, rfl, S7, hI, hsf, hnew⟩
    · rintro σ H4 ⟨u, ts, prs, pile, rfl, S, ⟨hi1, hi2, hi3⟩, hsf, hnew⟩
      walk_at "st"
      intro t ht
      have s5 := same_upd (o := .tup [.ref l1, .ref l2]) ht
      have S5 := S.more s5
      rw [List.drop_of_length_le (Nat.le_refl _), List.append_nil] at hi3
      exact k t l1 l2 ts prs pile _ S5.sm upd_same S5.a1 S5.it S5.a2 (by omega) (by omega) (fun d a hd => by rw [← hT d a hd]; exact hi3 d a hd) (by rw [List.drop_of_length_le (Nat.le_refl _)] at hsf; rw [hsf]; rfl) hnew

--SPLIT
def okAt (d at_ : Int) : List Int → Prop
  | [] => False
  | x :: _ => ab (at_ - x) ≤ d
theorem hung_len (d : Int) : ∀ (r : List Int) (x : Int), (hung d x r).length = r.length
  | [], _ => rfl
  | c :: r, x => by simp [hung, hung_len d r]
def spWheel (K : PySem.W.Frag) : Sp := fun vs H Q _ => ∃ (a : Addr) (row : List Int) (d at_ : Int), vs = [.int d, .int at_, .ref a] ∧ SqL K H a (iL row) ∧ row.length ≤ 20000 ∧ 0 ≤ d ∧ okAt d at_ row ∧ ∀ H', Same H H' → Q (.int (gw d at_ row)) H'
theorem ok_wheel_way (T : Txt mg) (D : Def K mg "wheel_way" s_wheel_way) (C_swings_of : Callee P w K mg base "swings_of" 3 (spSwings K)) (C_way_of : Callee P w K mg base "way_of" 1 spWay) (C_hung_row : Callee P w K mg base "hung_row" 2 (spHung K)) : Callee P w K mg base "wheel_way" 4 (spWheel K) := by
  refine D.ok sc_wheel_way bd_wheel_way (fun vs H Q E h => ?len) (fun f cdv A outer s H vs Q E hr h => ?body)
  case len => obtain ⟨a, row, d, at_, rfl, _⟩ := h; rfl
  case body =>
    obtain ⟨a, row, d, at_, rfl, hA, hrow, hd, hok0, k⟩ := h
    have hu := hr.units
    refine ⟨_, (pss_cons (ps_if (PW.pt (pw_or (pt_not (pt_truthK K (pv 2))) (pw_or1 (pt_cmpR op_gt (pe_callB call_absK (by rfl) T.z_abs bt_abs (pa_cons (pe_op op_sub (pv 1) (pe_ix (ix_K K) (pv 2) pe_int (by exact fun _ _ => rfl))) pa_nil)) (pv 0) (nomark _)))))
 (pss_one ps_never)
 pss_nil)
 (pss_cons (ps_asg (pe_callN C_swings_of (hr.mono (by decide)) (by rfl) (pa_cons (pv 2) pa_nil)) (pg_tupK K 2 (pgs_cons (pg_name (i := 3) sc_wheel_way.nd rfl (Or.inl rfl)) (pgs_cons (pg_name (i := 4) sc_wheel_way.nd rfl (Or.inl rfl)) pgs_nil))))
 (pss_cons (ps_set (i := 5) sc_wheel_way.nd rfl (Or.inl rfl) (pe_callB (call_sumK K) (by rfl) T.z_sum bt_sum (pa_cons (by exact pe_comp (N := ["low", "high", "depth"]) (fr := [none, none, some 0]) ⟨by rfl, by decide +kernel, by decide +kernel, (show ∀ y ∈ (_ : List (Str × NameKind)), y.2 = NameKind.free → (defScope s_wheel_way).names.lookup y.1 = some .cell ∨ (defScope s_wheel_way).names.lookup y.1 = some .free by decide +kernel), (fr_none (fr_none (fr_some (by rfl) (by first | exact Or.inl rfl | exact Or.inr rfl) (by rfl) fr_nil)))⟩ (by rfl) (pi_listK K (pv 3)) (fun _ _ _ _ => (pg_tupK K 2 (pgs_cons (pg_name (i := 0) (show List.Nodup (["low", "high", "depth"] : List Str) by decide) (by rfl) (by first | exact Or.inl rfl | exact Or.inr rfl)) (pgs_cons (pg_name (i := 1) (show List.Nodup (["low", "high", "depth"] : List Str) by decide) (by rfl) (by first | exact Or.inl rfl | exact Or.inr rfl)) pgs_nil)))) (fun _ _ _ _ => pifs_nil) (fun _ _ _ _ => (pe_callB (call_maxK K) (by rfl) T.z_max bt_max (pa_cons pe_int (pa_cons (pe_op op_sub (pe_op op_sub (pv 1) (pv 0)) (pe_op op_mulP pe_int (pv 2))) pa_nil)))) (gw_tup (gws_cons (gw_name (by rfl)) (gws_cons (gw_name (by rfl)) gws_nil)))) pa_nil)))
 (pss_one (ps_ret (pe_op op_addP (pe_op op_mulP pe_int (pv 5)) (pe_callN C_way_of (hr.mono (by decide)) (by rfl) (pa_cons (pe_op op_addP (pe_lst (pa_cons (pv 1) pa_nil)) (pe_callN C_hung_row (hr.mono (by decide)) (by rfl) (pa_cons (pv 0) (pa_cons (pv 1) (pa_cons (pv 4) pa_nil))))) pa_nil)))))))), ?_⟩
    dsimp only [tSeq, tAsg, gName, tOp, tUn, tTest, tB, tAnd, tOr, tNot, tAndV, tOrV, tNotV, tIf, tIfS, tRet, tRetN, tDrop, tNext, tCons, tNil, tCB, tCall, tMenu, tComp, tDComp, tDGet, iZip2, iEnum, tNoIf, tTru, tJoin, cxOf_K, tLst, tTup, tSl, tPart, tNoPart, tBM, tBM0, tChain, tC, tFor_eq, gTup, gLst, gCons, gNil, gSub, iList, iRng1, iRng2, iRng3, iTup, iZip3, tWhile, tDelS, tBreak, tCont, tRev, tRaise, tCallS, tTry, tAug, tPar, tNever, ipI, List.append_nil]
    walk_at "st"
    refine i_truL hA ?_
    walk_at "st"
    cases row with
    | nil => exact hok0.elim
    | cons x0 r0 =>
    refine ifF (by rfl) ?_
    walk_at "st"
    refine i_ixN hA (i := 0) (by decide) (v := .int x0) rfl ?_
    walk_at "st"
    have hok1 : ab (at_ - x0) ≤ d := hok0
    unfold ab at hok1
    refine i_if (fun g => ?_) (fun g => ?_)
    · exfalso
      omega
    clear hok0
    generalize x0 :: r0 = row at *
    walk_at "st"
    refine ⟨a, row, rfl, hA, by omega, fun t ls lf ts ps lx H1 s1 e1 eS hM eL hpl hll hok _ _ => ?_⟩
    walk_at "st"
    refine ⟨_, _, rfl, SqT.of e1, rfl, _, _, rfl, _, _, rfl, rfl, ?_⟩
    have htl : ts.length = ps.length := hM.length
    walk_at "st"
    refine ⟨⟨_, SqL.of eS⟩, cp_list (xs := ts.map V.ref) (fun i ys H2 => ∃ ds : List Int, ys = iL ds ∧ ds.length = i ∧ ds.sum = sws d (ps.take i) ∧ Same H1 H2) ⟨[], rfl, rfl, rfl, Same.refl _⟩ ?_ (szlt (by simp; omega)) ?_ ?_⟩
    · rintro i ys H2 ⟨ds, rfl, hi, hsum, sm⟩
      exact ⟨SqL.of (sm _ _ eS), by simp [iL]; omega⟩
    · rintro i y ys H2 hx ⟨ds, rfl, hi, hsum, sm⟩
      rw [List.getElem?_map] at hx
      obtain ⟨t2, hti, rfl⟩ := Option.map_eq_some_iff.mp hx
      obtain ⟨m, hmi, hT⟩ := paired_getL hM hti
      walk_at "st"
      refine ⟨_, _, rfl, SqT.of (sm _ _ hT), rfl, _, _, rfl, _, _, rfl, rfl, ?_⟩
      walk_at "st"
      refine i_mulI (cmul_l (by decide) (by decide)) ?_
      walk_at "st"
      refine i_max2 (fun mx hmx => ?_)
      refine ⟨ds ++ [mx], by simp [iL], by simp; omega, ?_, sm⟩
      rw [take_snoc_get hmi, sws_snoc, ← hsum]
      simp; omega
    rintro l2 ys H2 ⟨ds, rfl, hi, hsum, sm⟩ hl2
    have s3 := sm.trans (same_upd (o := .lst (iL ds)) hl2)
    have e3 : upd H2 l2 (.lst (iL ds)) l2 = some (.lst (iL ds)) := upd_same
    generalize upd H2 l2 (.lst (iL ds)) = H3 at *
    rw [List.take_of_length_le (by simp; omega)] at hsum
    refine i_sum (SqL.of e3) ?_
    rw [hsum]
    walk_at "st"
    refine i_mulI (cmul_l (by decide) (by decide)) ?_
    walk_at "st"
    intro g1 hg1
    have s4 : Same H3 _ := same_upd (o := .lst [.int at_]) hg1
    have e4 : upd H3 g1 (.lst [.int at_]) g1 = some (.lst [.int at_]) := upd_same
    generalize upd H3 g1 (.lst [.int at_]) = H4 at *
    walk_at "st"
    refine ⟨lf, lx, d, at_, rfl, SqL.of (s4 _ _ (s3 _ _ eL)), by omega, hd, fun l5 H5 N5 => ?_⟩
    refine i_addL (a := g1) (b := l5) (xs := [.int at_]) (ys := iL (hung d at_ lx)) (N5.sm _ _ e4) N5.at_ (szl (by simp [iL, hung_len]; omega)) (fun l6 hl6 => ?_)
    refine ⟨l6, at_ :: hung d at_ lx, rfl, by rw [upd_same]; rfl, by simp [hung_len]; omega, fun H7 s7 => ?_⟩
    walk_at "st"
    have q := k H7 ((s1.trans (s3.trans (s4.trans N5.sm))).trans ((same_upd hl6).trans s7))
    rw [hok d at_ hd] at q
    rw [show 2 * sws d ps + wayL (at_ :: hung d at_ lx) = gw d at_ lx + 2 * sws d ps by show _ = way at_ (hung d at_ lx) + _; rw [wayL]; omega]
    exact q

--SPLIT
def TabAt (H : Hp) (us : List Addr) (tab : List (List Int)) : Prop := Paired (fun u (r : List Int) => H u = some (.lst (iL r))) us tab
theorem TabAt.more {H H' : Hp} {us : List Addr} {tab : List (List Int)} (h : TabAt H us tab) (s : Same H H') : TabAt H' us tab := Paired.mapP h fun _ _ e => s _ _ e
theorem pd_tab {H : Hp} {n : Nat} : ∀ {us : List Addr} {tab : List (List Int)}, TabAt H us tab → Paired (PdAt K H (n + 1)) (tab.map pL) (us.map V.ref)
  | _, _, .nil => .nil
  | _, _, .cons h t => .cons (pd_ints (SqL.of h)) (pd_tab t)
def spCase : Sp := fun vs H Q _ => ∃ cell : Int, vs = [.int cell] ∧ ∀ t lp lw lr ps ws r hd off H', Same H H' → H' t = some (.tup [.ref lp, .int hd, .ref lw, .ref lr, .int off]) → H' lp = some (.lst (iL ps)) → H' lw = some (.lst (iL ws)) → H' lr = some (.lst (iL (hd :: r))) → isTr ps → stand ps hd ws → r.length ≤ 12 → Q (.ref t) H'
theorem ok_law_case (T : Txt mg) (D : Def K mg "_law_case" s_law_case) (C_law_draws : Callee P w K mg base "_law_draws" 1 spDraws) : Callee P w K mg base "_law_case" 2 spCase := by
  refine D.ok sc_law_case bd_law_case (fun vs H Q E h => ?len) (fun f cdv A outer s H vs Q E hr h => ?body)
  case len => obtain ⟨cell, rfl, _⟩ := h; rfl
  case body =>
    obtain ⟨cell, rfl, k⟩ := h
    have hu := hr.units
    refine ⟨_, (pss_cons (ps_set (i := 1) sc_law_case.nd rfl (Or.inr rfl) (pe_callN C_law_draws (hr.mono (by decide)) (by rfl) (pa_cons (pv 0) (pa_cons pe_int (pa_cons (pe_powK (r := 1000000000) (by decide)) pa_nil)))))
 (pss_cons (ps_set (i := 2) sc_law_case.nd rfl (Or.inr rfl) (pe_menu (pa_cons pe_int (pa_cons (pe_powK (r := 1000000000000) (by decide)) (pa_cons (pe_powK (r := 1000000000000000000000000000000000000000000000000) (by decide)) pa_nil))) (pe_op op_mod (pe_ix (ix_K K) (pv 1) pe_int (by exact fun _ _ => rfl)) pe_int) (by exact fun _ _ => rfl)))
 (pss_cons (ps_set (i := 3) sc_law_case.nd rfl (Or.inl rfl) (pe_op op_addP pe_int (pe_op op_mod (pe_ix (ix_K K) (pv 1) pe_int (by exact fun _ _ => rfl)) pe_int)))
 (pss_cons (by exact ps_setC (i := 4) sc_law_case.nd rfl (Or.inl rfl) (N := ["k", "scale", "picks"]) (fr := [none, some 2, some 1]) ⟨by rfl, by decide +kernel, by decide +kernel, (show ∀ y ∈ (_ : List (Str × NameKind)), y.2 = NameKind.free → (defScope s_law_case).names.lookup y.1 = some .cell ∨ (defScope s_law_case).names.lookup y.1 = some .free by decide +kernel), (fr_none (fr_some (by rfl) (by first | exact Or.inl rfl | exact Or.inr rfl) (by rfl) (fr_some (by rfl) (by first | exact Or.inl rfl | exact Or.inr rfl) (by rfl) fr_nil)))⟩ (by rfl) (pi_range1 (by rfl) T.z_range (pa_cons (pv 3) pa_nil)) (fun _ _ _ _ => (pg_name (i := 0) (show List.Nodup (["k", "scale", "picks"] : List Str) by decide) (by rfl) (by first | exact Or.inl rfl | exact Or.inr rfl))) (fun _ _ _ _ => pifs_nil) (fun _ _ _ _ => (pe_op op_mulP (pe_op op_mod (pe_ix (ix_K K) (pv 2) (pe_op op_addP pe_int (pv 0)) (by exact fun _ _ => rfl)) (pe_menu (pa_cons pe_int (pa_cons (pe_powK (r := 1000000000) (by decide)) pa_nil)) (pe_op op_mod (pe_ix (ix_K K) (pv 2) pe_int (by exact fun _ _ => rfl)) pe_int) (by exact fun _ _ => rfl))) (pv 1))) (gw_name (by rfl)))
 (pss_cons (ps_set (i := 5) sc_law_case.nd rfl (Or.inl rfl) (pe_op op_mulP (pe_op op_sub (pe_ix (ix_K K) (pv 1) pe_int (by exact fun _ _ => rfl)) pe_int) (pv 2)))
 (pss_cons (ps_set (i := 6) sc_law_case.nd rfl (Or.inl rfl) (pe_lst pa_nil))
 (pss_cons (ps_set (i := 7) sc_law_case.nd rfl (Or.inl rfl) (pv 5))
 (pss_cons (ps_for PassesOwn.never rfl (pi_range1 (by rfl) T.z_range (pa_cons (pv 3) pa_nil)) (pg_name (i := 8) sc_law_case.nd rfl (Or.inl rfl))
 (pss_cons (ps_set (i := 9) sc_law_case.nd rfl (Or.inl rfl) (pe_ix (ix_K K) (pv 4) (pv 8) (by exact fun _ _ => rfl)))
 (pss_cons (ps_set (i := 10) sc_law_case.nd rfl (Or.inl rfl) (pe_op op_sub (pe_op op_mod (pe_op op_mulP (pe_ix (ix_K K) (pv 1) (pe_op op_addP pe_int (pv 8)) (by exact fun _ _ => rfl)) (pv 2)) (pe_op op_addP (pe_op op_mulP pe_int (pv 9)) pe_int)) (pv 9)))
 (pss_cons (ps_set (i := 7) sc_law_case.nd rfl (Or.inl rfl) (pe_op op_addP (pv 7) (pe_menu (pa_cons (pv 9) (pa_cons (pe_op op_sub pe_int (pv 9)) (pa_cons (pv 10) pa_nil))) (pe_op op_mod (pe_ix (ix_K K) (pv 1) (pe_op op_addP pe_int (pv 8)) (by exact fun _ _ => rfl)) pe_int) (by exact fun _ _ => rfl))))
 (pss_one (ps_expr (pe_bmK K PySem.F.plainAttrs_list PySem.F.slot_list_append PySem.F.type_list_append mt_append (pv 6) (pa_cons (pv 7) pa_nil))))))))
 (pss_cons (ps_set (i := 11) sc_law_case.nd rfl (Or.inl rfl) (pe_op op_addP (pe_op op_mulP pe_int (pe_callB (call_sumK K) (by rfl) T.z_sum bt_sum (pa_cons (pv 4) pa_nil))) (pv 2)))
 (pss_cons (ps_set (i := 12) sc_law_case.nd rfl (Or.inl rfl) (pe_lst (pa_cons (pv 5) pa_nil)))
 (pss_cons (ps_for PassesOwn.never rfl (pi_range1 (by rfl) T.z_range (pa_cons (pe_op op_mod (pe_ix (ix_K K) (pv 1) pe_int (by exact fun _ _ => rfl)) pe_int) pa_nil)) (pg_name (i := 8) sc_law_case.nd rfl (Or.inl rfl))
 (pss_one (ps_expr (pe_bmK K PySem.F.plainAttrs_list PySem.F.slot_list_append PySem.F.type_list_append mt_append (pv 12) (pa_cons (pe_op op_sub (pe_op op_addP (pv 5) (pe_op op_mod (pe_op op_mulP (pe_ix (ix_K K) (pv 1) (pe_op op_addP pe_int (pv 8)) (by exact fun _ _ => rfl)) (pv 2)) (pe_op op_addP (pe_op op_mulP pe_int (pv 11)) pe_int))) (pv 11)) pa_nil)))))
 (pss_one (ps_ret (pe_tup (pa_cons (pv 4) (pa_cons (pv 5) (pa_cons (pv 6) (pa_cons (pv 12) (pa_cons (pe_op op_mulP (pe_op op_sub (pe_ix (ix_K K) (pv 1) pe_int (by exact fun _ _ => rfl)) pe_int) (pv 2)) pa_nil))))))))))))))))))), ?_⟩
    dsimp only [tSeq, tAsg, gName, tOp, tUn, tTest, tB, tAnd, tOr, tNot, tAndV, tOrV, tNotV, tIf, tIfS, tRet, tRetN, tDrop, tNext, tCons, tNil, tCB, tCall, tMenu, tComp, tDComp, tDGet, iZip2, iEnum, tNoIf, tTru, tJoin, cxOf_K, tLst, tTup, tSl, tPart, tNoPart, tBM, tBM0, tChain, tC, tFor_eq, gTup, gLst, gCons, gNil, gSub, iList, iRng1, iRng2, iRng3, iTup, iZip3, tWhile, tDelS, tBreak, tCont, tRev, tRaise, tCallS, tTry, tAug, tPar, tNever, ipI, List.append_nil]
    walk_at "st"
    refine ⟨cell, 60, 1000000000, rfl, by decide, by decide, by decide, by decide, fun lq H1 pk N1 l1 b1 => ?_⟩
    have it : ∀ {HH : Hp} {Q' : VK} {j : Int}, Same H1 HH → 0 ≤ j → j < 60 → (∀ v, 0 ≤ v → v < 1000000000 → Q' (.int v) HH) → rIxP K (.ref lq) (.int j) HH Q' := fun sh h0 h1 q => i_ixL (SqL.of (sh _ _ N1.at_)) h0 (by omega) fun v _ m => q v (b1 v m).1 (b1 v m).2
    walk_at "st"
    refine it (Same.refl _) (by omega) (by omega) (fun v0 _ _ => ?_)
    walk_at "st"
    refine i_menu3 (Int.emod_nonneg _ (by decide)) (Int.emod_lt_of_pos _ (by decide)) (fun scale hscale => ?_)
    have hs1 : 1 ≤ scale := by omega
    clear hscale
    walk_at "st"
    refine it (Same.refl _) (by omega) (by omega) (fun v1 _ _ => ?_)
    walk_at "st"
    have r1 := Int.emod_nonneg v1 (show (12 : Int) ≠ 0 by decide)
    have r2 := Int.emod_lt_of_pos v1 (show (0 : Int) < 12 by decide)
    generalize v1 % 12 = m1 at *
    refine ⟨by omega, by omega, cp_range (fun i ys H2 => ∃ ps : List Int, ys = iL ps ∧ ps.length = i ∧ (∀ p ∈ ps, 0 ≤ p) ∧ H1 = H2) ⟨[], rfl, rfl, by simp, rfl⟩ ?_ (szlt (by omega)) ?_ ?_⟩
    · rintro i ys H2 ⟨ps, rfl, hl, _⟩
      simp [iL]; omega
    · rintro i ys H2 hi ⟨ps, rfl, hl, hp, rfl⟩
      walk_at "st"
      refine it (Same.refl _) (by omega) (by omega) (fun v2 p2 q2 => ?_)
      walk_at "st"
      refine it (Same.refl _) (by omega) (by omega) (fun v3 p3 q3 => ?_)
      walk_at "st"
      refine i_menu2 (Int.emod_nonneg _ (by decide)) (Int.emod_lt_of_pos _ (by decide)) (fun md hmd => ?_)
      have hmd1 : 0 < md := by omega
      have hmd2 : md ≤ 1000000000 := by omega
      walk_at "st"
      have r3 := Int.emod_nonneg v2 (show md ≠ 0 by omega)
      have r4 := Int.emod_lt_of_pos v2 hmd1
      refine i_mulI (cmul_l (by omega) (by omega)) ?_
      refine ⟨ps ++ [v2 % md * scale], by simp [iL], by simp; omega, fun p hp2 => ?_, rfl⟩
      rcases List.mem_append.mp hp2 with z | z
      · exact hp p z
      · simp at z; subst z; exact Int.mul_nonneg r3 (by omega)
    rintro lp ys H2 ⟨ps, rfl, hpl, hp0, rfl⟩ hlp
    have s2 := same_upd (o := .lst (iL ps)) hlp
    have e2 : upd H1 lp (.lst (iL ps)) lp = some (.lst (iL ps)) := upd_same
    have flp : H lp = none := N1.sm.free hlp
    generalize upd H1 lp (.lst (iL ps)) = H2 at *
    have hT : isTr ps := ⟨by omega, by omega, hp0⟩
    walk_at "st"
    refine it s2 (by omega) (by omega) (fun v3 p3 q3 => ?_)
    walk_at "st"
    refine i_mulI (cmul_l (by omega) (by omega)) ?_
    generalize (v3 - 500000000) * scale = hd at *
    walk_at "st"
    intro lw hlw
    have s3 := s2.trans (same_upd (o := .lst []) hlw)
    have e3 := same_upd (o := .lst []) hlw _ _ e2
    have f3 : upd H2 lw (.lst []) lw = some (.lst (iL [])) := upd_same
    have flw : H lw = none := (N1.sm.trans s2).free hlw
    have npw : lp ≠ lw := ne_of_none e2 hlw
    have nqw : lq ≠ lw := ne_of_none (s2 _ _ N1.at_) hlw
    generalize upd H2 lw (.lst []) = H3 at *
    walk_at "st"
    refine ⟨by omega, by omega, lp_range (fun i σ H4 => ∃ (u8 u9 u10 : Option V) (ws : List Int) (ahead : Int), σ = [some (.int cell), some (.ref lq), some (.int scale), some (.int (1 + m1)), some (.ref lp), some (.int hd), some (.ref lw), some (.int ahead), u8, u9, u10, none, none] ∧ Same H H4 ∧ H4 lq = some (.lst (iL pk)) ∧ H4 lp = some (.lst (iL ps)) ∧ H4 lw = some (.lst (iL ws)) ∧ ws.length = i ∧ keeps (ps.take i) hd ws ∧ ahead = lastOf hd ws) ?_ ?_ ?_⟩
    · exact ⟨none, none, none, [], hd, rfl, N1.sm.trans s3, s3 _ _ N1.at_, e3, f3, rfl, by simp [keeps], rfl⟩
    · rintro i σ H4 hi ⟨u8, u9, u10, ws, ahead, rfl, sm, eq, ep, ew, hwl, hk, hah⟩
      have hi2 : i < ps.length := by omega
      have it4 : ∀ {Q' : VK} {j : Int}, 0 ≤ j → j < 60 → (∀ v, 0 ≤ v → v < 1000000000 → Q' (.int v) H4) → rIxP K (.ref lq) (.int j) H4 Q' := fun h0 h1 q => i_ixL (SqL.of eq) h0 (by omega) fun v _ m => q v (b1 v m).1 (b1 v m).2
      obtain ⟨p, hp⟩ : ∃ p, ps[i]? = some p := ⟨_, List.getElem?_eq_getElem hi2⟩
      have hpp := hp0 p (List.mem_of_getElem? hp)
      walk_at "st"
      refine i_ixN (SqL.of ep) (by omega) (v := .int p) (by rw [List.getElem?_map, show (0 + (i : Int)).toNat = i by omega, hp]; rfl) ?_
      walk_at "st"
      refine it4 (by omega) (by omega) (fun v4 p4 q4 => ?_)
      walk_at "st"
      refine i_mulI (cmul_l (by omega) (by omega)) ?_
      walk_at "st"
      refine i_mulI (cmul_l (by decide) (by decide)) ?_
      walk_at "st"
      have r3 := Int.emod_nonneg (v4 * scale) (show 2 * p + 1 ≠ 0 by omega)
      have r4 := Int.emod_lt_of_pos (v4 * scale) (show (0 : Int) < 2 * p + 1 by omega)
      generalize v4 * scale % (2 * p + 1) = off at *
      refine it4 (by omega) (by omega) (fun v5 p5 q5 => ?_)
      walk_at "st"
      refine i_menu3 (Int.emod_nonneg _ (by decide)) (Int.emod_lt_of_pos _ (by decide)) (fun sd hsd => ?_)
      have hsd2 : -p ≤ sd ∧ sd ≤ p := by omega
      clear hsd
      walk_at "st"
      refine ⟨.inl ⟨rfl, _, SqL.of ew⟩, ?_⟩
      walk_at "st"
      refine i_app ew (szlt (by simp [iL]; omega)) ?_
      have npw2 : lp ≠ lw := npw
      refine ⟨_, _, _, ws ++ [ahead + sd], ahead + sd, rfl, fun b o e => by rw [upd_ne (ne_of_none e flw)]; exact sm b o e, by rw [upd_ne nqw]; exact eq, by rw [upd_ne npw]; exact ep, by rw [upd_same]; simp [iL], by simp; omega, ?_, ?_⟩
      · rw [take_snoc_get hp]
        have go : ∀ (qs xs : List Int) (a : Int), qs.length = xs.length → keeps qs a xs → keeps (qs ++ [p]) a (xs ++ [lastOf a xs + sd]) := by
          intro qs
          induction qs with
          | nil =>
            intro xs a hl _
            cases xs with
            | nil => exact ⟨⟨by simp only [lastOf]; omega, by simp only [lastOf]; omega⟩, trivial⟩
            | cons _ _ => simp at hl
          | cons q qs ih =>
            intro xs a hl hk
            cases xs with
            | nil => simp at hl
            | cons x xs => exact ⟨hk.1, ih xs x (by simpa using hl) hk.2⟩
        rw [hah]
        exact go _ ws hd (by simp; omega) hk
      · rw [lastOf_append]; rfl
    rintro σ H4 ⟨u8, u9, u10, ws, ahead, rfl, sm, eq, ep, ew, hwl, hk, hah⟩
    rw [List.take_of_length_le (by omega)] at hk
    have hst : stand ps hd ws := ⟨by omega, hk⟩
    clear hk hah it s3 e3 f3
    walk_at "st"
    refine i_sum (SqL.of ep) ?_
    have hsum : 0 ≤ ps.sum := by
      have go : ∀ qs : List Int, (∀ p ∈ qs, 0 ≤ p) → 0 ≤ qs.sum := by
        intro qs
        induction qs with
        | nil => intro _; simp
        | cons q qs ih =>
          intro h
          have := ih fun z hz => h z (List.mem_cons_of_mem _ hz)
          have := h q List.mem_cons_self
          simp; omega
      exact go ps hp0
    generalize ps.sum = sm0 at *
    walk_at "st"
    refine i_mulI (cmul_l (by decide) (by decide)) ?_
    walk_at "st"
    intro lr hlr
    have s5 := same_upd (o := .lst [.int hd]) hlr
    have e5 : upd H4 lr (.lst [.int hd]) lr = some (.lst (iL (hd :: []))) := upd_same
    have flr : H lr = none := sm.free hlr
    have nqr : lq ≠ lr := ne_of_none eq hlr
    have npr : lp ≠ lr := ne_of_none ep hlr
    have nwr : lw ≠ lr := ne_of_none ew hlr
    replace eq := s5 _ _ eq
    replace ep := s5 _ _ ep
    replace ew := s5 _ _ ew
    have S5 := sm.trans s5
    generalize upd H4 lr (.lst [.int hd]) = H5 at *
    walk_at "st"
    refine i_ixL (SqL.of eq) (by decide) (by omega) (fun v6 _ m6 => ?_)
    walk_at "st"
    have r5 := Int.emod_nonneg v6 (show (13 : Int) ≠ 0 by decide)
    have r6 := Int.emod_lt_of_pos v6 (show (0 : Int) < 13 by decide)
    generalize v6 % 13 = m6' at *
    refine ⟨by omega, by omega, lp_range (fun i σ H6 => ∃ (u8 u9 u10 : Option V) (r : List Int), σ = [some (.int cell), some (.ref lq), some (.int scale), some (.int (1 + m1)), some (.ref lp), some (.int hd), some (.ref lw), some (.int ahead), u8, u9, u10, some (.int (2 * sm0 + scale)), some (.ref lr)] ∧ Same H H6 ∧ H6 lq = some (.lst (iL pk)) ∧ H6 lp = some (.lst (iL ps)) ∧ H6 lw = some (.lst (iL ws)) ∧ H6 lr = some (.lst (iL (hd :: r))) ∧ r.length = i) ?_ ?_ ?_⟩
    · exact ⟨_, _, _, [], rfl, S5, eq, ep, ew, e5, rfl⟩
    · clear eq ep ew e5 S5
      rintro i σ H6 hi ⟨u8, u9, u10, r, rfl, sm6, eq, ep, ew, er, hrl⟩
      walk_at "st"
      refine ⟨.inl ⟨rfl, _, SqL.of er⟩, ?_⟩
      walk_at "st"
      refine i_ixL (SqL.of eq) (by omega) (by omega) (fun v7 _ m7 => ?_)
      have b7 := b1 v7 m7
      walk_at "st"
      refine i_mulI (cmul_l (by omega) (by omega)) ?_
      walk_at "st"
      refine i_mulI (cmul_l (by decide) (by decide)) ?_
      walk_at "st"
      refine i_app er (szlt (by simp [iL]; omega)) ?_
      generalize hd + v7 * scale % (2 * (2 * sm0 + scale) + 1) - (2 * sm0 + scale) = pl at *
      exact ⟨_, _, _, r ++ [pl], rfl, fun b o e => by rw [upd_ne (ne_of_none e flr)]; exact sm6 b o e, by rw [upd_ne nqr]; exact eq, by rw [upd_ne npr]; exact ep, by rw [upd_ne nwr]; exact ew, by rw [upd_same]; simp [iL], by simp; omega⟩
    clear eq ep ew e5 S5
    rintro σ H6 ⟨u8, u9, u10, r, rfl, sm6, eq, ep, ew, er, hrl⟩
    walk_at "st"
    refine i_ixL (SqL.of eq) (by decide) (by omega) (fun v8 _ m8 => ?_)
    have b8 := b1 v8 m8
    walk_at "st"
    refine i_mulI (cmul_l (by omega) (by omega)) ?_
    walk_at "st"
    intro t ht
    have s7 := same_upd (o := .tup [.ref lp, .int hd, .ref lw, .ref lr, .int ((v8 - 500000000) * scale)]) ht
    exact k t lp lw lr ps ws r hd _ _ (sm6.trans s7) upd_same (s7 _ _ ep) (s7 _ _ ew) (s7 _ _ er) hT hst (by omega)
--SPLIT
theorem last_stand {ps : List Int} (hT : isTr ps) : ∀ (row ws : List Int) (a : Int) (R' r' : List (List Int)) (g : List Int) (q' : List Int) (e : Int), stand ps a ws → runs ps ws row = R' ++ [g] → row = q' ++ [e] → stand ps e g
  | [], ws, a, R', r', g, q', e, _, h, _ => by simp [runs] at h
  | [c], ws, a, R', r', g, q', e, hs, h, h2 => by
    have e1 : R' = [] ∧ g = dragAll ps ws c := by
      cases R' with
      | nil => simp [runs] at h; exact ⟨rfl, h.symm⟩
      | cons x R' => simp [runs] at h
    have e2 : e = c := by
      cases q' with
      | nil => simp at h2; exact h2.symm
      | cons x q' => simp at h2
    rw [e1.2, e2]
    exact dragAll_stand hT hs
  | c :: d :: row, ws, a, R', r', g, q', e, hs, h, h2 => by
    cases R' with
    | nil => simp [runs] at h
    | cons x R' =>
      cases q' with
      | nil => simp at h2
      | cons y q' =>
        simp only [runs, List.cons_append, List.cons.injEq] at h h2
        exact last_stand hT (d :: row) _ c R' r' g q' e (dragAll_stand hT hs) (by simp only [runs]; exact h.2) h2.2
theorem snoc_of {α : Type} {xs : List α} (h : 0 < xs.length) : ∃ ini x, xs = ini ++ [x] := ⟨xs.dropLast, xs.getLast (by intro z; rw [z] at h; simp at h), (List.dropLast_concat_getLast _).symm⟩
theorem ok_far {ps ws d' w' : List Int} {h dd wl : Int} (hT : isTr ps) (hs : stand ps h ws) (hd : depths 0 ps = d' ++ [dd]) (hw : ws = w' ++ [wl]) : 0 ≤ dd ∧ ab (wl - h) ≤ dd := by
  have hP := pcs_of hT.2.2 hs
  have hn := hT.1
  have hdl : (depths 0 ps).length = ps.length := depths_length ..
  have hwl := hs.1
  have l1 : d'.length + 1 = ps.length := by rw [← hdl, hd]; simp
  have l2 : w'.length + 1 = ps.length := by rw [← hwl, hw]; simp
  have q := hP.2 (-1) ((ps.length : Int) - 1) (by omega) (by omega) (by omega)
  have e1 : pc (depths 0 ps) 0 ((ps.length : Int) - 1) = dd := by
    rw [show (ps.length : Int) - 1 = ((ps.length - 1 : Nat) : Int) by omega]
    refine pc_nat ?_
    rw [hd, List.getElem?_append_right (by omega), show ps.length - 1 - d'.length = 0 by omega]
    rfl
  have e2 : pc ws h ((ps.length : Int) - 1) = wl := by
    rw [show (ps.length : Int) - 1 = ((ps.length - 1 : Nat) : Int) by omega]
    refine pc_nat ?_
    rw [hw, List.getElem?_append_right (by omega), show ps.length - 1 - w'.length = 0 by omega]
    rfl
  rw [e1, e2, hP.1, pc_neg] at q
  exact ⟨by omega, by unfold ab; split <;> omega⟩
noncomputable def T1 (ps : List Int) (h : Int) (ws row : List Int) (e : Int) (g : List Int) : List (List Int) := runs ps ws row ++ [turn (moves row), std row, (swF (turn (moves row)) [] []).1, toldRow ps h ws e g]
def spTold : Sp := fun vs H Q _ => ∃ (a b c : Addr) (ps ws r : List Int) (hd : Int) (R' : List (List Int)) (g q' : List Int) (e : Int) (d' : List Int) (dd : Int) (w' : List Int) (wl : Int), vs = [.ref a, .int hd, .ref b, .ref c] ∧ H a = some (.lst (iL ps)) ∧ H b = some (.lst (iL ws)) ∧ H c = some (.lst (iL (hd :: r))) ∧ isTr ps ∧ stand ps hd ws ∧ r.length ≤ 12 ∧
  runs ps ws (hd :: r) = R' ++ [g] ∧ hd :: r = q' ++ [e] ∧ depths 0 ps = d' ++ [dd] ∧ ws = w' ++ [wl] ∧
  ∀ t l1 us l2 ts l3 qs l4 H', Same H H' → H' t = some (.tup [.ref l1, .ref l2, .ref l3, .ref l4]) → H' l1 = some (.lst (us.map V.ref)) → TabAt H' us (T1 ps hd ws (hd :: r) e g) → H' l2 = some (.lst (ts.map V.ref)) → MsAt H' ts (swF (turn (moves (hd :: r))) [] []).2 → H' l3 = some (.lst (qs.map V.ref)) → MsAt H' qs (told ps hd ws e g) → H' l4 = some (.lst (iL [gw dd wl (hd :: r), way hd (toldRow ps hd ws e g)])) → Q (.ref t) H'
theorem ok_law_told (T : Txt mg) (D : Def K mg "_law_told" s_law_told) (C_run_of : Callee P w K mg base "run_of" 5 (spRunOf K)) (C_depths_of : Callee P w K mg base "depths_of" 3 (spDepths K)) (C_swings_of : Callee P w K mg base "swings_of" 3 (spSwings K)) (C_least_of : Callee P w K mg base "least_of" 9 spLeastOf) (C_wheel_way : Callee P w K mg base "wheel_way" 4 (spWheel K)) (C_least_row : Callee P w K mg base "least_row" 8 spLeastRow) (C_standing_of : Callee P w K mg base "standing_of" 3 spStanding) (C_turning_of : Callee P w K mg base "turning_of" 2 (spTurning K)) (C_paper_of : Callee P w K mg base "paper_of" 7 spPaper) : Callee P w K mg base "_law_told" 10 spTold := by
  refine D.ok sc_law_told bd_law_told (fun vs H Q E h => ?len) (fun f cdv A outer s H vs Q E hr h => ?body)
  case len => obtain ⟨a, b, c, ps, ws, r, hd, R', g, q', e, d', dd, w', wl, rfl, _⟩ := h; rfl
  case body =>
    obtain ⟨a, b, c, ps, ws, r, hd, R', g, q', e, d', dd, w', wl, rfl, hA, hB, hC, hT, hS, hrl, hR, hE, hD, hW, k⟩ := h
    have hu := hr.units
    have hsg : stand ps e g := last_stand hT _ ws hd R' [] g q' e hS hR hE
    obtain ⟨hdd, hfar⟩ := ok_far hT hS hD hW
    have hrl2 : (hd :: r).length ≤ 13 := by simp; omega
    refine ⟨_, (pss_cons (ps_set (i := 4) sc_law_told.nd rfl (Or.inl rfl) (pe_callN C_run_of (hr.mono (by decide)) (by rfl) (pa_cons (pv 0) (pa_cons (pv 1) (pa_cons (pv 2) (pa_cons (pv 3) pa_nil))))))
 (pss_cons (ps_set (i := 5) sc_law_told.nd rfl (Or.inl rfl) (pe_ix (ix_K K) (pv 4) (pe_negK (r := -1) (by decide)) (by exact fun _ _ => rfl)))
 (pss_cons (ps_set (i := 6) sc_law_told.nd rfl (Or.inl rfl) (pe_ix (ix_K K) (pv 3) (pe_negK (r := -1) (by decide)) (by exact fun _ _ => rfl)))
 (pss_cons (ps_set (i := 7) sc_law_told.nd rfl (Or.inl rfl) (pe_ix (ix_K K) (pe_callN C_depths_of (hr.mono (by decide)) (by rfl) (pa_cons (pv 0) pa_nil)) (pe_negK (r := -1) (by decide)) (by exact fun _ _ => rfl)))
 (pss_cons (ps_asg (pe_callN C_swings_of (hr.mono (by decide)) (by rfl) (pa_cons (pv 3) pa_nil)) (pg_tupK K 2 (pgs_cons (pg_name (i := 8) sc_law_told.nd rfl (Or.inl rfl)) (pgs_cons (pg_name (i := 9) sc_law_told.nd rfl (Or.inl rfl)) pgs_nil))))
 (pss_cons (ps_set (i := 10) sc_law_told.nd rfl (Or.inl rfl) (pe_lst (pa_cons (pe_callN C_wheel_way (hr.mono (by decide)) (by rfl) (pa_cons (pv 7) (pa_cons (pe_ix (ix_K K) (pv 2) (pe_negK (r := -1) (by decide)) (by exact fun _ _ => rfl)) (pa_cons (pv 3) pa_nil)))) (pa_cons (pe_callN C_least_of (hr.mono (by decide)) (by rfl) (pa_cons (pv 0) (pa_cons (pv 1) (pa_cons (pv 2) (pa_cons (pv 6) (pa_cons (pv 5) pa_nil)))))) pa_nil))))
 (pss_cons (ps_set (i := 11) sc_law_told.nd rfl (Or.inl rfl) (pe_lst (pa_cons (pe_callN C_turning_of (hr.mono (by decide)) (by rfl) (pa_cons (pv 3) pa_nil)) (pa_cons (pe_callN C_standing_of (hr.mono (by decide)) (by rfl) (pa_cons (pv 3) pa_nil)) (pa_cons (pv 9) (pa_cons (pe_callN C_least_row (hr.mono (by decide)) (by rfl) (pa_cons (pv 0) (pa_cons (pv 1) (pa_cons (pv 2) (pa_cons (pv 6) (pa_cons (pv 5) pa_nil)))))) pa_nil))))))
 (pss_one (ps_ret (pe_tup (pa_cons (pe_op op_addP (pv 4) (pv 11)) (pa_cons (pv 8) (pa_cons (pe_callN C_paper_of (hr.mono (by decide)) (by rfl) (pa_cons (pv 0) (pa_cons (pv 1) (pa_cons (pv 2) (pa_cons (pv 6) (pa_cons (pv 5) pa_nil)))))) (pa_cons (pv 10) pa_nil)))))))))))))), ?_⟩
    dsimp only [tSeq, tAsg, gName, tOp, tUn, tTest, tB, tAnd, tOr, tNot, tAndV, tOrV, tNotV, tIf, tIfS, tRet, tRetN, tDrop, tNext, tCons, tNil, tCB, tCall, tMenu, tComp, tDComp, tDGet, iZip2, iEnum, tNoIf, tTru, tJoin, cxOf_K, tLst, tTup, tSl, tPart, tNoPart, tBM, tBM0, tChain, tC, tFor_eq, gTup, gLst, gCons, gNil, gSub, iList, iRng1, iRng2, iRng3, iTup, iZip3, tWhile, tDelS, tBreak, tCont, tRev, tRaise, tCallS, tTry, tAug, tPar, tNever, ipI, List.append_nil]
    walk_at "st"
    refine ⟨a, b, c, ps, ws, hd :: r, hd, rfl, SqL.of hA, SqL.of hB, SqL.of hC, hT, hS, by omega, fun lr rs H1 N1 => ?_⟩
    have hit := N1.it
    rw [hR] at hit
    obtain ⟨rs', rg, hrs, frg, eg1⟩ := paired_snocI hit
    have s1 := N1.sm
    have e1 := N1.at_
    have hTab1 : TabAt H1 rs (runs ps ws (hd :: r)) := Paired.mapP N1.it fun _ _ z => z.2
    have hrsl : rs.length = (hd :: r).length := by rw [N1.len, runs_length]
    clear N1 hit
    walk_at "st"
    refine i_ixLast (xs := rs'.map V.ref) (v := .ref rg) (SqL.of (by rw [e1, hrs]; simp)) ?_
    walk_at "st"
    refine i_ixLast (xs := iL q') (v := .int e) (SqL.of (by rw [s1 _ _ hC, hE]; simp [iL])) ?_
    walk_at "st"
    refine ⟨a, ps, rfl, SqL.of (s1 _ _ hA), hT, fun ld H2 N2 => ?_⟩
    walk_at "st"
    refine i_ixLast (xs := iL d') (v := .int dd) (SqL.of (by rw [N2.at_, hD]; simp [iL])) ?_
    have S2 := s1.trans N2.sm
    have e2 := N2.sm _ _ e1
    have eg2 := N2.sm _ _ eg1
    have hTab2 := hTab1.more N2.sm
    clear N2 s1 e1 eg1 hTab1
    walk_at "st"
    refine ⟨c, hd :: r, rfl, SqL.of (S2 _ _ hC), by omega, fun ts0 ls lf ts prs lx H3 s3 e3 eS hM eL hpl hll _ hsw _ => ?_⟩
    walk_at "st"
    refine ⟨_, _, rfl, SqT.of e3, rfl, _, _, rfl, _, _, rfl, rfl, ?_⟩
    have S3 := S2.trans s3
    replace e2 := s3 _ _ e2
    replace eg2 := s3 _ _ eg2
    have hTab3 := hTab2.more s3
    clear S2 s3 e3 hTab2
    walk_at "st"
    refine i_ixLast (xs := iL w') (v := .int wl) (SqL.of (by rw [S3 _ _ hB, hW]; simp [iL])) ?_
    walk_at "st"
    refine ⟨c, hd :: r, dd, wl, rfl, SqL.of (S3 _ _ hC), by omega, hdd, hfar, fun H4 s4 => ?_⟩
    have S4 := S3.trans s4
    walk_at "st"
    refine ⟨a, b, rg, ps, ws, g, hd, e, rfl, S4 _ _ hA, S4 _ _ hB, s4 _ _ eg2, hT, hS, hsg, fun H5 s5 => ?_⟩
    walk_at "st"
    intro l4 hl4
    have s45 := s4.trans (s5.trans (same_upd (o := .lst [.int (gw dd wl (hd :: r)), .int (way hd (toldRow ps hd ws e g))]) hl4))
    have e6 : upd H5 l4 (.lst [.int (gw dd wl (hd :: r)), .int (way hd (toldRow ps hd ws e g))]) l4 = some (.lst (iL [gw dd wl (hd :: r), way hd (toldRow ps hd ws e g)])) := upd_same
    generalize upd H5 l4 (.lst [.int (gw dd wl (hd :: r)), .int (way hd (toldRow ps hd ws e g))]) = H6 at *
    have S6 := S3.trans s45
    replace e2 := s45 _ _ e2
    replace eg2 := s45 _ _ eg2
    replace eS := s45 _ _ eS
    replace hM := hM.more s45
    replace eL := s45 _ _ eL
    have hTab6 := hTab3.more s45
    clear S3 s4 s5 S4 s45 hTab3
    walk_at "st"
    refine ⟨c, hd :: r, rfl, SqL.of (S6 _ _ hC), by omega, fun l7 H7 N7 => ?_⟩
    walk_at "st"
    refine ⟨c, hd :: r, rfl, N7.sm _ _ (S6 _ _ hC), by omega, fun l8 H8 N8 => ?_⟩
    have s8 := N7.sm.trans N8.sm
    walk_at "st"
    refine ⟨a, b, rg, ps, ws, g, hd, e, rfl, s8 _ _ (S6 _ _ hA), s8 _ _ (S6 _ _ hB), s8 _ _ eg2, hT, hS, hsg, fun l9 H9 N9 => ?_⟩
    have s9 := s8.trans N9.sm
    have e7 := N9.sm _ _ (N8.sm _ _ N7.at_)
    have e8 := N9.sm _ _ N8.at_
    have e9 := N9.at_
    have S9 := S6.trans s9
    replace e2 := s9 _ _ e2
    replace eg2 := s9 _ _ eg2
    replace eS := s9 _ _ eS
    replace hM := hM.more s9
    replace eL := s9 _ _ eL
    replace e6 := s9 _ _ e6
    have hTab9 := hTab6.more s9
    clear N7 N8 N9 s8 s9 S6 hTab6
    walk_at "st"
    intro lp hlp
    have s10 := same_upd (o := .lst [.ref l7, .ref l8, .ref lf, .ref l9]) hlp
    have e10 : upd H9 lp (.lst [.ref l7, .ref l8, .ref lf, .ref l9]) lp = some (.lst [.ref l7, .ref l8, .ref lf, .ref l9]) := upd_same
    generalize upd H9 lp (.lst [.ref l7, .ref l8, .ref lf, .ref l9]) = H10 at *
    walk_at "st"
    refine i_addL (a := lr) (b := lp) (xs := rs.map V.ref) (ys := [.ref l7, .ref l8, .ref lf, .ref l9]) (s10 _ _ e2) e10 (szl (by simp; omega)) (fun l11 hl11 => ?_)
    have s11 := s10.trans (same_upd (o := .lst (rs.map V.ref ++ [.ref l7, .ref l8, .ref lf, .ref l9])) hl11)
    have e11 : upd H10 l11 (.lst (rs.map V.ref ++ [.ref l7, .ref l8, .ref lf, .ref l9])) l11 = some (.lst ((rs ++ [l7, l8, lf, l9]).map V.ref)) := by rw [upd_same]; simp
    generalize upd H10 l11 (.lst (rs.map V.ref ++ [.ref l7, .ref l8, .ref lf, .ref l9])) = H11 at *
    have S11 := S9.trans s11
    have hpile : lx = (swF (turn (moves (hd :: r))) [] []).1 := by rw [← hsw]
    have hprs : prs = (swF (turn (moves (hd :: r))) [] []).2 := by rw [← hsw]
    have hTab11 : TabAt H11 (rs ++ [l7, l8, lf, l9]) (T1 ps hd ws (hd :: r) e g) := by
      unfold T1
      refine paired_app (hTab9.more s11) (.cons (s11 _ _ e7) (.cons (s11 _ _ e8) (.cons ?_ (.cons (s11 _ _ e9) .nil))))
      rw [← hpile]
      exact s11 _ _ eL
    replace eS := s11 _ _ eS
    replace hM := hM.more s11
    replace e6 := s11 _ _ e6
    replace eg2 := s11 _ _ eg2
    rw [hprs] at hM
    clear S9 s10 s11 e10 e7 e8 e9 eL hTab9 e2
    walk_at "st"
    refine ⟨a, b, rg, ps, ws, g, hd, e, rfl, S11 _ _ hA, S11 _ _ hB, eg2, hT, hS, hsg, fun l12 qs H12 N12 => ?_⟩
    walk_at "st"
    intro t ht
    have s13 := N12.sm.trans (same_upd (o := .tup [.ref l11, .ref ls, .ref l12, .ref l4]) ht)
    have s14 := same_upd (o := .tup [.ref l11, .ref ls, .ref l12, .ref l4]) ht
    exact k t l11 _ ls ts l12 qs l4 _ (S11.trans s13) upd_same (s13 _ _ e11) (hTab11.more s13) (s13 _ _ eS) (hM.more s13) (s14 _ _ N12.at_) (N12.it.more s14) (s13 _ _ e6)
--SPLIT
theorem T1_sh {ps ws : List Int} (h : Int) (row : List Int) (e : Int) {g : List Int} (b : Int) (h0 : 0 < ps.length) (h1 : ws.length = ps.length) (h2 : g.length = ps.length) : T1 ps (h + b) (ws.map (· + b)) (row.map (· + b)) (e + b) (g.map (· + b)) = (T1 ps h ws row e g).map fun R => R.map (· + b) := by
  unfold T1
  have e := swF_sh b (turn (moves row)) [] []
  simp only [List.map_nil] at e
  rw [runs_sh, turn_sh, std_sh, e, toldRow_sh b h0 h1 h2, List.map_append]
  rfl
theorem T1_ov {ps ws : List Int} (h : Int) (row : List Int) (e : Int) {g : List Int} (hp : ∀ p ∈ ps, 0 ≤ p) (h0 : 0 < ps.length) (h1 : ws.length = ps.length) (h2 : g.length = ps.length) : T1 ps (0 - h) (ws.map (0 - ·)) (row.map (0 - ·)) (0 - e) (g.map (0 - ·)) = (T1 ps h ws row e g).map fun R => R.map (0 - ·) := by
  unfold T1
  have e := swF_ov (turn (moves row)) [] []
  simp only [List.map_nil] at e
  rw [runs_ov ps hp, turn_ov, std_ov, e, toldRow_ov h0 h1 h2, List.map_append]
  rfl
theorem T2_sh (row : List Int) (b : Int) : (swF (turn (moves (row.map (· + b)))) [] []).2 = (swF (turn (moves row)) [] []).2.map fun p => (p.1 + b, p.2 + b) := by
  have e := swF_sh b (turn (moves row)) [] []
  simp only [List.map_nil] at e
  rw [turn_sh, e]
theorem T2_ov (row : List Int) : (swF (turn (moves (row.map (0 - ·)))) [] []).2 = (swF (turn (moves row)) [] []).2.map fun p => (0 - p.2, 0 - p.1) := by
  have e := swF_ov (turn (moves row)) [] []
  simp only [List.map_nil] at e
  rw [turn_ov, e]
theorem sh_stand {ps : List Int} (b : Int) : ∀ {qs xs : List Int} {a : Int}, keeps qs a xs → keeps qs (a + b) (xs.map (· + b))
  | [], _, _, _ => by simp [keeps]
  | _ :: _, [], _, _ => by simp [keeps]
  | q :: qs, x :: xs, a, h => by
    refine ⟨?_, sh_stand (ps := ps) b h.2⟩
    have := h.1
    simp only
    omega
theorem ov_stand {ps : List Int} : ∀ {qs xs : List Int} {a : Int}, keeps qs a xs → keeps qs (0 - a) (xs.map (0 - ·))
  | [], _, _, _ => by simp [keeps]
  | _ :: _, [], _, _ => by simp [keeps]
  | q :: qs, x :: xs, a, h => by
    refine ⟨?_, ov_stand (ps := ps) h.2⟩
    have := h.1
    simp only
    omega
theorem delS_len {L : List Int} (h : 4 ≤ L.length) : (delS L).length + 2 = L.length := by
  unfold delS
  rw [List.length_append, List.length_take, List.length_drop]
  omega
theorem swW_len : ∀ (n : Nat) (L : List Int) (ps : List (Int × Int)), (swW n L ps).1.length + 2 * (swW n L ps).2.length = L.length + 2 * ps.length
  | 0, _, _ => rfl
  | n + 1, L, ps => by
    unfold swW
    by_cases h : hasS L = true
    · rw [if_pos h, swW_len n]
      have := delS_len (hasS_len h)
      simp
      omega
    · rw [if_neg h]
theorem swF_len : ∀ (r L : List Int) (ps : List (Int × Int)), (swF r L ps).1.length + 2 * (swF r L ps).2.length = r.length + L.length + 2 * ps.length
  | [], _, _ => by simp [swF]
  | x :: r, L, ps => by
    simp only [swF]
    rw [swF_len r]
    have := swW_len (L.length + 1) (L ++ [x]) ps
    simp at this ⊢
    omega
theorem ok_law {f : Addr} {fd : FuncData} (F : Fun K "law" "law" s_law f fd) (T : Txt mg) (C_law_case : Callee P w K mg base "_law_case" 2 spCase) (C_law_told : Callee P w K mg base "_law_told" 10 spTold) :
    FnOk P w K mg base CX0 11 f fd ["script"] (spLaw K) := by
  refine F.ok sc_law (fun vs H Q E h => ?_) (fun cdv A outer s H vs Q E hr h => ?_)
  · obtain ⟨a, ns, rfl, _⟩ := h
    rfl
  · obtain ⟨a, ns, rfl, hS, hlen, k⟩ := h
    have hu := hr.units
    refine ⟨_, (pss_cons (ps_set (i := 1) sc_law.nd rfl (Or.inl rfl) (pe_slice (sl_listK K) (pv 0) po_none (po_some pe_int)))
 (pss_join (ps_if (pt_cmpR (op_eqK K hu) (pv 1) (pe_lst pa_nil) (nomark _))
 (pss_one (ps_set (i := 1) sc_law.nd rfl (Or.inl rfl) (pe_lst (pa_cons pe_int pa_nil))))
 pss_nil)
 (pss_cons (ps_for PassesOwn.never rfl (pi_listK K (pv 1)) (pg_name (i := 2) sc_law.nd rfl (Or.inl rfl))
 (pss_cons (ps_asg (pe_callN C_law_case (hr.mono (by decide)) (by rfl) (pa_cons (pv 2) pa_nil)) (pg_tupK K 5 (pgs_cons (pg_name (i := 3) sc_law.nd rfl (Or.inl rfl)) (pgs_cons (pg_name (i := 4) sc_law.nd rfl (Or.inl rfl)) (pgs_cons (pg_name (i := 5) sc_law.nd rfl (Or.inl rfl)) (pgs_cons (pg_name (i := 6) sc_law.nd rfl (Or.inl rfl)) (pgs_cons (pg_name (i := 7) sc_law.nd rfl (Or.inr rfl)) pgs_nil)))))))
 (pss_cons (ps_set (i := 8) sc_law.nd rfl (Or.inl rfl) (pe_callN C_law_told (hr.mono (by decide)) (by rfl) (pa_cons (pv 3) (pa_cons (pv 4) (pa_cons (pv 5) (pa_cons (pv 6) pa_nil))))))
 (pss_cons (ps_set (i := 9) sc_law.nd rfl (Or.inl rfl) (pe_callN C_law_told (hr.mono (by decide)) (by rfl) (pa_cons (pv 3) (pa_cons (pe_op op_addP (pv 4) (pv 7)) (pa_cons (by exact pe_comp (N := ["at", "off"]) (fr := [none, some 7]) ⟨by rfl, by decide +kernel, by decide +kernel, (show ∀ y ∈ (_ : List (Str × NameKind)), y.2 = NameKind.free → (defScope s_law).names.lookup y.1 = some .cell ∨ (defScope s_law).names.lookup y.1 = some .free by decide +kernel), (fr_none (fr_some (by rfl) (by first | exact Or.inl rfl | exact Or.inr rfl) (by rfl) fr_nil))⟩ (by rfl) (pi_listK K (pv 5)) (fun _ _ _ _ => (pg_name (i := 0) (show List.Nodup (["at", "off"] : List Str) by decide) (by rfl) (by first | exact Or.inl rfl | exact Or.inr rfl))) (fun _ _ _ _ => pifs_nil) (fun _ _ _ _ => (pe_op op_addP (pv 0) (pv 1))) (gw_name (by rfl))) (pa_cons (by exact pe_comp (N := ["place", "off"]) (fr := [none, some 7]) ⟨by rfl, by decide +kernel, by decide +kernel, (show ∀ y ∈ (_ : List (Str × NameKind)), y.2 = NameKind.free → (defScope s_law).names.lookup y.1 = some .cell ∨ (defScope s_law).names.lookup y.1 = some .free by decide +kernel), (fr_none (fr_some (by rfl) (by first | exact Or.inl rfl | exact Or.inr rfl) (by rfl) fr_nil))⟩ (by rfl) (pi_listK K (pv 6)) (fun _ _ _ _ => (pg_name (i := 0) (show List.Nodup (["place", "off"] : List Str) by decide) (by rfl) (by first | exact Or.inl rfl | exact Or.inr rfl))) (fun _ _ _ _ => pifs_nil) (fun _ _ _ _ => (pe_op op_addP (pv 0) (pv 1))) (gw_name (by rfl))) pa_nil))))))
 (pss_cons (by exact ps_setC (i := 10) sc_law.nd rfl (Or.inl rfl) (N := ["one", "off"]) (fr := [none, some 7]) ⟨by rfl, by decide +kernel, by decide +kernel, (show ∀ y ∈ (_ : List (Str × NameKind)), y.2 = NameKind.free → (defScope s_law).names.lookup y.1 = some .cell ∨ (defScope s_law).names.lookup y.1 = some .free by decide +kernel), (fr_none (fr_some (by rfl) (by first | exact Or.inl rfl | exact Or.inr rfl) (by rfl) fr_nil))⟩ (by rfl) (pi_listK K (pe_ix (ix_K K) (pv 8) pe_int (by exact fun _ _ => rfl))) (fun _ _ _ _ => (pg_name (i := 0) (show List.Nodup (["one", "off"] : List Str) by decide) (by rfl) (by first | exact Or.inl rfl | exact Or.inr rfl))) (fun _ _ _ _ => pifs_nil) (fun _ _ _ _ => (by exact pe_comp (N := ["place", "off"]) (fr := [none, some 1]) ⟨by rfl, by decide +kernel, by decide +kernel, nest_frees (by decide +kernel), (fr_none (fr_some (by rfl) (nest_free (by rfl)) (by rfl) fr_nil))⟩ (by rfl) (pi_listK K (pv 0)) (fun _ _ _ _ => (pg_name (i := 0) (show List.Nodup (["place", "off"] : List Str) by decide) (by rfl) (by first | exact Or.inl rfl | exact Or.inr rfl))) (fun _ _ _ _ => pifs_nil) (fun _ _ _ _ => (pe_op op_addP (pv 0) (pv 1))) (gw_name (by rfl)))) (gw_name (by rfl)))
 (pss_cons (ps_if (pt_cmpR (op_neK K hu) (pv 9) (pe_tup (pa_cons (pv 10) (pa_cons (by exact pe_comp (N := ["low", "high", "off"]) (fr := [none, none, some 7]) ⟨by rfl, by decide +kernel, by decide +kernel, (show ∀ y ∈ (_ : List (Str × NameKind)), y.2 = NameKind.free → (defScope s_law).names.lookup y.1 = some .cell ∨ (defScope s_law).names.lookup y.1 = some .free by decide +kernel), (fr_none (fr_none (fr_some (by rfl) (by first | exact Or.inl rfl | exact Or.inr rfl) (by rfl) fr_nil)))⟩ (by rfl) (pi_listK K (pe_ix (ix_K K) (pv 8) pe_int (by exact fun _ _ => rfl))) (fun _ _ _ _ => (pg_tupK K 2 (pgs_cons (pg_name (i := 0) (show List.Nodup (["low", "high", "off"] : List Str) by decide) (by rfl) (by first | exact Or.inl rfl | exact Or.inr rfl)) (pgs_cons (pg_name (i := 1) (show List.Nodup (["low", "high", "off"] : List Str) by decide) (by rfl) (by first | exact Or.inl rfl | exact Or.inr rfl)) pgs_nil)))) (fun _ _ _ _ => pifs_nil) (fun _ _ _ _ => (pe_tup (pa_cons (pe_op op_addP (pv 0) (pv 2)) (pa_cons (pe_op op_addP (pv 1) (pv 2)) pa_nil)))) (gw_tup (gws_cons (gw_name (by rfl)) (gws_cons (gw_name (by rfl)) gws_nil)))) (pa_cons (pe_ix (ix_K K) (pv 8) pe_int (by exact fun _ _ => rfl)) (pa_cons (pe_ix (ix_K K) (pv 8) pe_int (by exact fun _ _ => rfl)) pa_nil))))) (nomark _))
 (pss_one (ps_ret pe_bl))
 pss_nil)
 (pss_cons (ps_set (i := 9) sc_law.nd rfl (Or.inl rfl) (pe_callN C_law_told (hr.mono (by decide)) (by rfl) (pa_cons (pv 3) (pa_cons (pe_op op_sub pe_int (pv 4)) (pa_cons (by exact pe_comp (N := ["at"]) (fr := [none]) ⟨by rfl, by decide +kernel, by decide +kernel, (show ∀ y ∈ (_ : List (Str × NameKind)), y.2 = NameKind.free → (defScope s_law).names.lookup y.1 = some .cell ∨ (defScope s_law).names.lookup y.1 = some .free by decide +kernel), (fr_none fr_nil)⟩ (by rfl) (pi_listK K (pv 5)) (fun _ _ _ _ => (pg_name (i := 0) (show List.Nodup (["at"] : List Str) by decide) (by rfl) (by first | exact Or.inl rfl | exact Or.inr rfl))) (fun _ _ _ _ => pifs_nil) (fun _ _ _ _ => (pe_op op_sub pe_int (pv 0))) (gw_name (by rfl))) (pa_cons (by exact pe_comp (N := ["place"]) (fr := [none]) ⟨by rfl, by decide +kernel, by decide +kernel, (show ∀ y ∈ (_ : List (Str × NameKind)), y.2 = NameKind.free → (defScope s_law).names.lookup y.1 = some .cell ∨ (defScope s_law).names.lookup y.1 = some .free by decide +kernel), (fr_none fr_nil)⟩ (by rfl) (pi_listK K (pv 6)) (fun _ _ _ _ => (pg_name (i := 0) (show List.Nodup (["place"] : List Str) by decide) (by rfl) (by first | exact Or.inl rfl | exact Or.inr rfl))) (fun _ _ _ _ => pifs_nil) (fun _ _ _ _ => (pe_op op_sub pe_int (pv 0))) (gw_name (by rfl))) pa_nil))))))
 (pss_cons (by exact ps_setC (i := 10) sc_law.nd rfl (Or.inl rfl) (N := ["one"]) (fr := [none]) ⟨by rfl, by decide +kernel, by decide +kernel, (show ∀ y ∈ (_ : List (Str × NameKind)), y.2 = NameKind.free → (defScope s_law).names.lookup y.1 = some .cell ∨ (defScope s_law).names.lookup y.1 = some .free by decide +kernel), (fr_none fr_nil)⟩ (by rfl) (pi_listK K (pe_ix (ix_K K) (pv 8) pe_int (by exact fun _ _ => rfl))) (fun _ _ _ _ => (pg_name (i := 0) (show List.Nodup (["one"] : List Str) by decide) (by rfl) (by first | exact Or.inl rfl | exact Or.inr rfl))) (fun _ _ _ _ => pifs_nil) (fun _ _ _ _ => (by exact pe_comp (N := ["place"]) (fr := [none]) ⟨by rfl, by decide +kernel, by decide +kernel, nest_frees (by decide +kernel), (fr_none fr_nil)⟩ (by rfl) (pi_listK K (pv 0)) (fun _ _ _ _ => (pg_name (i := 0) (show List.Nodup (["place"] : List Str) by decide) (by rfl) (by first | exact Or.inl rfl | exact Or.inr rfl))) (fun _ _ _ _ => pifs_nil) (fun _ _ _ _ => (pe_op op_sub pe_int (pv 0))) (gw_name (by rfl)))) (gw_name (by rfl)))
 (pss_cons (by exact ps_setC (i := 11) sc_law.nd rfl (Or.inl rfl) (N := ["wheel", "side"]) (fr := [none, none]) ⟨by rfl, by decide +kernel, by decide +kernel, (show ∀ y ∈ (_ : List (Str × NameKind)), y.2 = NameKind.free → (defScope s_law).names.lookup y.1 = some .cell ∨ (defScope s_law).names.lookup y.1 = some .free by decide +kernel), (fr_none (fr_none fr_nil))⟩ (by rfl) (pi_listK K (pe_ix (ix_K K) (pv 8) pe_int (by exact fun _ _ => rfl))) (fun _ _ _ _ => (pg_tupK K 2 (pgs_cons (pg_name (i := 0) (show List.Nodup (["wheel", "side"] : List Str) by decide) (by rfl) (by first | exact Or.inl rfl | exact Or.inr rfl)) (pgs_cons (pg_name (i := 1) (show List.Nodup (["wheel", "side"] : List Str) by decide) (by rfl) (by first | exact Or.inl rfl | exact Or.inr rfl)) pgs_nil)))) (fun _ _ _ _ => pifs_nil) (fun _ _ _ _ => (pe_tup (pa_cons (pv 0) (pa_cons (pe_op op_sub pe_int (pv 1)) pa_nil)))) (gw_tup (gws_cons (gw_name (by rfl)) (gws_cons (gw_name (by rfl)) gws_nil))))
 (pss_one (ps_if (pt_cmpR (op_neK K hu) (pv 9) (pe_tup (pa_cons (pv 10) (pa_cons (by exact pe_comp (N := ["low", "high"]) (fr := [none, none]) ⟨by rfl, by decide +kernel, by decide +kernel, (show ∀ y ∈ (_ : List (Str × NameKind)), y.2 = NameKind.free → (defScope s_law).names.lookup y.1 = some .cell ∨ (defScope s_law).names.lookup y.1 = some .free by decide +kernel), (fr_none (fr_none fr_nil))⟩ (by rfl) (pi_listK K (pe_ix (ix_K K) (pv 8) pe_int (by exact fun _ _ => rfl))) (fun _ _ _ _ => (pg_tupK K 2 (pgs_cons (pg_name (i := 0) (show List.Nodup (["low", "high"] : List Str) by decide) (by rfl) (by first | exact Or.inl rfl | exact Or.inr rfl)) (pgs_cons (pg_name (i := 1) (show List.Nodup (["low", "high"] : List Str) by decide) (by rfl) (by first | exact Or.inl rfl | exact Or.inr rfl)) pgs_nil)))) (fun _ _ _ _ => pifs_nil) (fun _ _ _ _ => (pe_tup (pa_cons (pe_op op_sub pe_int (pv 1)) (pa_cons (pe_op op_sub pe_int (pv 0)) pa_nil)))) (gw_tup (gws_cons (gw_name (by rfl)) (gws_cons (gw_name (by rfl)) gws_nil)))) (pa_cons (pv 11) (pa_cons (pe_ix (ix_K K) (pv 8) pe_int (by exact fun _ _ => rfl)) pa_nil))))) (nomark _))
 (pss_one (ps_ret pe_bl))
 pss_nil)))))))))))
 (pss_one (ps_ret pe_bl))))), ?_⟩
    dsimp only [tSeq, tAsg, gName, tOp, tUn, tTest, tB, tAnd, tOr, tNot, tAndV, tOrV, tNotV, tIf, tIfS, tRet, tRetN, tDrop, tNext, tCons, tNil, tCB, tCall, tMenu, tComp, tDComp, tDGet, iZip2, iEnum, tNoIf, tTru, tJoin, cxOf_K, tLst, tTup, tSl, tPart, tNoPart, tBM, tBM0, tChain, tC, tFor_eq, gTup, gLst, gCons, gNil, gSub, iList, iRng1, iRng2, iRng3, iTup, iZip3, tWhile, tDelS, tBreak, tCont, tRev, tRaise, tCallS, tTry, tAug, tPar, tNever, ipI, List.append_nil]
    walk_at "st"
    refine i_slTo hS (by decide) (fun l1 hl1 => ?_)
    have hcl : (ns.take (6 : Int).toNat).length ≤ 6 := by rw [List.length_take]; exact Nat.min_le_left _ _
    have e1 : upd H l1 (.lst (iL (ns.take (6 : Int).toNat))) l1 = some (.lst (iL (ns.take (6 : Int).toNat))) := upd_same
    generalize upd H l1 (.lst (iL (ns.take (6 : Int).toNat))) = H1 at *
    generalize ns.take (6 : Int).toNat = cs0 at *
    walk_at "st"
    refine ⟨fun σ H2 => ∃ (lc : Addr) (cs : List Int), σ = [some (.ref a), some (.ref lc), none, none, none, none, none, none, none, none, none, none] ∧ H2 lc = some (.lst (iL cs)) ∧ cs.length ≤ 6, ?_, ?_⟩
    · walk_at "st"
      intro l2 hl2
      refine i_eqL (ys := []) (SqL.of (same_upd hl2 _ _ e1)) (SqL.of upd_same) ?_
      walk_at "st"
      refine i_ifb (fun _ => ?_) (fun _ => ?_)
      · walk_at "st"
        intro l3 hl3
        walk_at "st"
        exact ⟨l3, [0], rfl, upd_same, by simp⟩
      · exact ⟨l1, cs0, rfl, same_upd hl2 _ _ e1, hcl⟩
    rintro σ H2 ⟨lc, cs, rfl, e2, hcl2⟩
    clear e1 hcl
    walk_at "st"
    refine ⟨⟨_, SqL.of e2⟩, lp_ints (ns := cs) (fun i σ H3 => ∃ (u2 u3 u4 u5 u6 u7 u8 u9 u10 u11 : Option V), σ = [some (.ref a), some (.ref lc), u2, u3, u4, u5, u6, u7, u8, u9, u10, u11] ∧ H3 lc = some (.lst (iL cs))) ?_ ?_ ?_ ?_⟩
    · exact ⟨_, _, _, _, _, _, _, _, _, _, rfl, e2⟩
    · rintro i σ H3 _ ⟨u2, u3, u4, u5, u6, u7, u8, u9, u10, u11, rfl, e3⟩
      exact SqL.of e3
    · clear e2
      rintro i cell σ H3 _ ⟨u2, u3, u4, u5, u6, u7, u8, u9, u10, u11, rfl, e3⟩
      walk_at "st"
      refine ⟨cell, rfl, fun t0 lp lw lr ps ws r hd off H4 s4 e0 ep ew er hT hSt hrl => ?_⟩
      have e4 := s4 _ _ e3
      clear s4 e3
      walk_at "st"
      refine ⟨_, _, rfl, SqT.of e0, rfl, _, _, rfl, _, _, rfl, _, _, rfl, _, _, rfl, _, _, rfl, rfl, ?_⟩
      have hn1 := hT.1
      have hn2 := hT.2.1
      have hwl := hSt.1
      obtain ⟨R', g, hR⟩ := snoc_of (xs := runs ps ws (hd :: r)) (by rw [runs_length]; simp)
      obtain ⟨q', e, hE⟩ := snoc_of (xs := hd :: r) (by simp)
      obtain ⟨d', dd, hD⟩ := snoc_of (xs := depths 0 ps) (by rw [depths_length]; omega)
      obtain ⟨w', wl, hW⟩ := snoc_of (xs := ws) (by omega)
      have hsg : stand ps e g := last_stand hT _ ws hd R' [] g q' e hSt hR hE
      have hgl := hsg.1
      obtain ⟨hdd, _⟩ := ok_far hT hSt hD hW
      walk_at "st"
      refine ⟨lp, lw, lr, ps, ws, r, hd, R', g, q', e, d', dd, w', wl, rfl, ep, ew, er, hT, hSt, hrl, hR, hE, hD, hW, fun t l1 us l2 ts l3 qs l4 H5 s5 e5 f1 hTab f2 hM f3 hQ f4 => ?_⟩
      have hTl : us.length ≤ 20 := by
        rw [hTab.length]; unfold T1
        rw [List.length_append, runs_length]; simp; omega
      replace e4 := s5 _ _ e4
      replace ep := s5 _ _ ep
      replace ew := s5 _ _ ew
      replace er := s5 _ _ er
      clear s5 e0
      have hlens : ∀ L ∈ T1 ps hd ws (hd :: r) e g, L.length ≤ 20 := by
        intro L hL
        unfold T1 at hL
        rcases List.mem_append.mp hL with z | z
        · have go : ∀ (row ws : List Int) (L : List Int), ws.length = ps.length → L ∈ runs ps ws row → L.length = ps.length := by
            intro row
            induction row with
            | nil => intro ws L _ h; simp [runs] at h
            | cons c row ih =>
              intro ws L hw h
              simp only [runs] at h
              have hl2 : (dragAll ps ws c).length = ps.length := by rw [dragAll_length]; omega
              rcases List.mem_cons.mp h with q | q
              · rw [q]; exact hl2
              · exact ih _ L hl2 q
          have := go _ _ L hwl z
          have := hT.2.1
          omega
        · have hrl3 : (hd :: r).length ≤ 13 := by simp; omega
          have a1 := turn_length (hd :: r)
          have a2 := std_len (hd :: r)
          have a3 : (toldRow ps hd ws e g).length ≤ ps.length + 1 := toldRow_length
          have := hT.2.1
          simp only [List.mem_cons, List.not_mem_nil, or_false] at z
          rcases z with rfl | rfl | rfl | rfl
          · omega
          · omega
          · have := swF_len (turn (moves (hd :: r))) [] []
            simp at this
            omega
          · omega
      have hprl : ts.length ≤ 20 := by
        rw [hM.length]
        have := swF_len (turn (moves (hd :: r))) [] []
        have a1 := turn_length (hd :: r)
        simp at this a1
        omega
      have hqsl : qs.length ≤ 20 := by
        rw [hQ.length]
        have : (told ps hd ws e g).length ≤ ps.length + 1 := paper_length
        have := hT.2.1
        omega
      walk_at "st"
      refine ⟨⟨_, SqL.of ew⟩, cp_list (xs := iL ws) (fun i ys H2 => ys = iL ((ws.map (· + off)).take i) ∧ i ≤ ws.length ∧ H5 = H2) ⟨by simp, Nat.zero_le _, rfl⟩ ?_ (szlt (by simp [iL]; omega)) ?_ ?_⟩
      · rintro i ys H2 ⟨rfl, hi, rfl⟩
        exact ⟨SqL.of ew, by simp [iL]; omega⟩
      · rintro i x ys H2 hx ⟨rfl, hi, rfl⟩
        rw [List.getElem?_map] at hx
        obtain ⟨z, hzi, rfl⟩ := Option.map_eq_some_iff.mp hx
        have hil : i < ws.length := (List.getElem?_eq_some_iff.mp hzi).1
        walk_at "st"
        refine ⟨?_, by omega, rfl⟩
        rw [take_snoc_get (show (ws.map (· + off))[i]? = some (z + off) by rw [List.getElem?_map, hzi]; rfl)]
        simp [iL]
      rintro lw2 ys H6 ⟨rfl, _, rfl⟩ hlw2
      rw [List.take_of_length_le (by simp [iL])]
      have s6 := same_upd (o := .lst (iL (ws.map (· + off)))) hlw2
      have ew2 : upd H5 lw2 (.lst (iL (ws.map (· + off)))) lw2 = some (.lst (iL (ws.map (· + off)))) := upd_same
      generalize upd H5 lw2 (.lst (iL (ws.map (· + off)))) = H6 at *
      have er6 := s6 _ _ er
      have hrl3 : (hd :: r).length ≤ 13 := by simp; omega
      walk_at "st"
      refine ⟨⟨_, SqL.of er6⟩, cp_list (xs := iL (hd :: r)) (fun i ys H2 => ys = iL (((hd :: r).map (· + off)).take i) ∧ i ≤ (hd :: r).length ∧ H6 = H2) ⟨by simp, Nat.zero_le _, rfl⟩ ?_ (szlt (by simp [iL]; omega)) ?_ ?_⟩
      · rintro i ys H2 ⟨rfl, hi, rfl⟩
        exact ⟨SqL.of er6, by simp [iL]; omega⟩
      · rintro i x ys H2 hx ⟨rfl, hi, rfl⟩
        rw [List.getElem?_map] at hx
        obtain ⟨z, hzi, rfl⟩ := Option.map_eq_some_iff.mp hx
        have hil : i < (hd :: r).length := (List.getElem?_eq_some_iff.mp hzi).1
        walk_at "st"
        refine ⟨?_, by omega, rfl⟩
        rw [take_snoc_get (show ((hd :: r).map (· + off))[i]? = some (z + off) by rw [List.getElem?_map, hzi]; rfl)]
        simp [iL]
      rintro lr2 ys H7 ⟨rfl, _, rfl⟩ hlr2
      rw [List.take_of_length_le (by simp [iL])]
      have s7 := same_upd (o := .lst (iL ((hd :: r).map (· + off)))) hlr2
      have er7 : upd H6 lr2 (.lst (iL ((hd :: r).map (· + off)))) lr2 = some (.lst (iL ((hd :: r).map (· + off)))) := upd_same
      generalize upd H6 lr2 (.lst (iL ((hd :: r).map (· + off)))) = H7 at *
      have S7 := s6.trans s7
      have ew7 := s7 _ _ ew2
      clear s6 s7 er6 ew2
      walk_at "st"
      have hR2 : runs ps (ws.map (· + off)) ((hd + off) :: r.map (· + off)) = (R'.map fun R => R.map (· + off)) ++ [g.map (· + off)] := by
        rw [show (hd + off) :: r.map (· + off) = (hd :: r).map (· + off) from rfl, runs_sh, hR, List.map_append]; rfl
      have hE2 : (hd + off) :: r.map (· + off) = (q'.map (· + off)) ++ [(e + off)] := by rw [show (hd + off) :: r.map (· + off) = (hd :: r).map (· + off) from rfl, hE, List.map_append]; rfl
      have hW2 : ws.map (· + off) = (w'.map (· + off)) ++ [(wl + off)] := by rw [hW, List.map_append]; rfl
      refine ⟨lp, lw2, lr2, ps, ws.map (· + off), r.map (· + off), (hd + off), _, _, _, _, d', dd, _, _, rfl, S7 _ _ ep, ew7, er7, hT, ⟨by simpa using hwl, sh_stand (ps := ps) off hSt.2⟩, by simpa using hrl, hR2, hE2, hD, hW2, fun t2 m1 vs2 m2 ts2 m3 qs2 m4 H8 s8 e8 g1 hTab8 g2 hM8 g3 hQ8 g4 => ?_⟩
      rw [show (hd + off) :: r.map (· + off) = (hd :: r).map (· + off) from rfl] at hTab8 hM8 g4
      rw [T1_sh hd (hd :: r) e off (by omega) hwl hgl] at hTab8
      rw [T2_sh] at hM8
      rw [told_sh off (by omega) hwl hgl] at hQ8
      rw [gw_sh, toldRow_sh off (by omega) hwl hgl, way_sh] at g4
      have S8 := S7.trans s8
      clear S7 s8 ew7 er7
      walk_at "st"
      refine i_ixT (SqT.of (S8 _ _ e5)) (by decide) (v := .ref l1) rfl ?_
      walk_at "st"
      refine ⟨⟨_, SqL.of (S8 _ _ f1)⟩, cp_list (xs := us.map V.ref) (fun i ys H2 => ∃ vs : List Addr, ys = vs.map V.ref ∧ vs.length = i ∧ Same H8 H2 ∧ TabAt H2 vs (((T1 ps hd ws (hd :: r) e g).take i).map fun R => R.map (· + off))) ⟨[], rfl, rfl, Same.refl _, .nil⟩ ?_ (szlt (by simp; omega)) ?_ ?_⟩
      · rintro i ys H2 ⟨vs, rfl, hvl, sm, _⟩
        exact ⟨SqL.of (sm _ _ (S8 _ _ f1)), by simp; omega⟩
      · rintro i x ys H2 hx ⟨vs, rfl, hvl, sm, hV⟩
        rw [List.getElem?_map] at hx
        obtain ⟨u, hui, rfl⟩ := Option.map_eq_some_iff.mp hx
        obtain ⟨L0, hL0, hSt0⟩ := paired_getL hTab hui
        have hll := hlens L0 (List.mem_of_getElem? hL0)
        walk_at "st"
        refine ⟨⟨_, SqL.of (sm _ _ (S8 _ _ hSt0))⟩, cp_list (xs := iL L0) (fun j ys2 H9 => ys2 = iL ((L0.map (· + off)).take j) ∧ j ≤ L0.length ∧ H2 = H9) ⟨by simp, Nat.zero_le _, rfl⟩ ?_ (szlt (by simp [iL]; omega)) ?_ ?_⟩
        · rintro j ys2 H9 ⟨rfl, hj, rfl⟩
          exact ⟨SqL.of (sm _ _ (S8 _ _ hSt0)), by simp [iL]; omega⟩
        · rintro j x ys2 H9 hx ⟨rfl, hj, rfl⟩
          rw [List.getElem?_map] at hx
          obtain ⟨z, hzi, rfl⟩ := Option.map_eq_some_iff.mp hx
          have hil : j < L0.length := (List.getElem?_eq_some_iff.mp hzi).1
          walk_at "st"
          refine ⟨?_, by omega, rfl⟩
          rw [take_snoc_get (show (L0.map (· + off))[j]? = some (z + off) by rw [List.getElem?_map, hzi]; rfl)]
          simp [iL]
        rintro ln ys2 H9 ⟨rfl, _, rfl⟩ hln
        rw [List.take_of_length_le (by simp [iL])]
        have s12 := same_upd (o := .lst (iL (L0.map (· + off)))) hln
        refine ⟨vs ++ [ln], by simp, by simp; omega, sm.trans s12, ?_⟩
        rw [take_snoc_get hL0, List.map_append]
        exact Paired.snoc (hV.more s12) upd_same
      rintro ldue ys H9 ⟨vs, rfl, hvl, sm9, hV⟩ hld
      rw [List.take_of_length_le (by rw [← hTab.length]; simp)] at hV
      have s10 := sm9.trans (same_upd (o := .lst (vs.map V.ref)) hld)
      have e10 : upd H9 ldue (.lst (vs.map V.ref)) ldue = some (.lst (vs.map V.ref)) := upd_same
      have hV10 := hV.more (same_upd (o := .lst (vs.map V.ref)) hld)
      generalize upd H9 ldue (.lst (vs.map V.ref)) = H10 at *
      have S10 := S8.trans s10
      replace e8 := s10 _ _ e8
      replace g1 := s10 _ _ g1
      replace hTab8 := hTab8.more s10
      replace g2 := s10 _ _ g2
      replace hM8 := hM8.more s10
      replace g3 := s10 _ _ g3
      replace hQ8 := hQ8.more s10
      replace g4 := s10 _ _ g4
      clear S8 s10 sm9 hV hld
      walk_at "st"
      refine i_ixT (SqT.of (S10 _ _ e5)) (by decide) (v := .ref l2) rfl ?_
      walk_at "st"
      refine ⟨⟨_, SqL.of (S10 _ _ f2)⟩, cp_list (xs := ts.map V.ref) (fun i ys H2 => ∃ vs : List Addr, ys = vs.map V.ref ∧ vs.length = i ∧ Same H10 H2 ∧ MsAt H2 vs (((swF (turn (moves (hd :: r))) [] []).2.take i).map fun p => (p.1 + off, p.2 + off))) ⟨[], rfl, rfl, Same.refl _, .nil⟩ ?_ (szlt (by simp; omega)) ?_ ?_⟩
      · rintro i ys H2 ⟨vs, rfl, hvl, sm, _⟩
        exact ⟨SqL.of (sm _ _ (S10 _ _ f2)), by simp; omega⟩
      · rintro i x ys H2 hx ⟨vs, rfl, hvl, sm, hV⟩
        rw [List.getElem?_map] at hx
        obtain ⟨u, hui, rfl⟩ := Option.map_eq_some_iff.mp hx
        obtain ⟨m, hmi, hTm⟩ := paired_getL hM hui
        walk_at "st"
        refine ⟨_, _, rfl, SqT.of (sm _ _ (S10 _ _ hTm)), rfl, _, _, rfl, _, _, rfl, rfl, ?_⟩
        walk_at "st"
        intro v hv
        have s12 := same_upd (o := .tup [.int (m.1 + off), .int (m.2 + off)]) hv
        refine ⟨vs ++ [v], by simp, by simp; omega, sm.trans s12, ?_⟩
        rw [take_snoc_get hmi, List.map_append]
        exact Paired.snoc (hV.more s12) upd_same
      rintro lpr ys H12 ⟨vs4, rfl, hvl4, sm12, hV12⟩ hlpr
      rw [List.take_of_length_le (by rw [← hM.length]; simp)] at hV12
      have s12 := sm12.trans (same_upd (o := .lst (vs4.map V.ref)) hlpr)
      have e12 : upd H12 lpr (.lst (vs4.map V.ref)) lpr = some (.lst (vs4.map V.ref)) := upd_same
      have hVp := hV12.more (same_upd (o := .lst (vs4.map V.ref)) hlpr)
      generalize upd H12 lpr (.lst (vs4.map V.ref)) = H12 at *
      have S12 := S10.trans s12
      walk_at "st"
      refine i_ixT (SqT.of (S12 _ _ e5)) (by decide) (v := .ref l3) rfl ?_
      walk_at "st"
      refine i_ixT (SqT.of (S12 _ _ e5)) (by decide) (v := .ref l4) rfl ?_
      walk_at "st"
      intro t13 h13
      have s13 := same_upd (o := .tup [.ref ldue, .ref lpr, .ref l3, .ref l4]) h13
      have e13 : upd H12 t13 (.tup [.ref ldue, .ref lpr, .ref l3, .ref l4]) t13 = some (.tup [.ref ldue, .ref lpr, .ref l3, .ref l4]) := upd_same
      generalize upd H12 t13 (.tup [.ref ldue, .ref lpr, .ref l3, .ref l4]) = H13 at *
      have s14 := s12.trans s13
      have S13 := S12.trans s13
      refine i_neSame (.tuple [.list (((T1 ps hd ws (hd :: r) e g).map fun R => R.map (· + off)).map pL), .list (((swF (turn (moves (hd :: r))) [] []).2.map fun p => (p.1 + off, p.2 + off)).map pM), .list ((told ps hd ws e g).map pM), pL [gw dd wl (hd :: r), way hd (toldRow ps hd ws e g)]])
        (pd_tup (SqT.of (s14 _ _ e8)) (.cons (pd_lst (SqL.of (s14 _ _ g1)) (pd_tab (hTab8.more s14))) (.cons (pd_lst (SqL.of (s14 _ _ g2)) (pd_musts (hM8.more s14))) (.cons (pd_lst (SqL.of (s14 _ _ g3)) (pd_musts (hQ8.more s14))) (.cons (pd_ints (SqL.of (s14 _ _ g4))) .nil)))))
        (pd_tup (SqT.of e13) (.cons (pd_lst (SqL.of (s14 _ _ e10)) (pd_tab (hV10.more s14))) (.cons (pd_lst (SqL.of (s13 _ _ e12)) (pd_musts (hVp.more s13))) (.cons (pd_lst (SqL.of (S13 _ _ f3)) (pd_musts (hQ.more S13))) (.cons (pd_ints (SqL.of (S13 _ _ f4))) .nil))))) ?_
      replace e4 := S13 _ _ e4
      replace ep := S13 _ _ ep
      replace ew := S13 _ _ ew
      replace er := S13 _ _ er
      replace e5 := S13 _ _ e5
      replace f1 := S13 _ _ f1
      replace hTab := hTab.more S13
      replace f2 := S13 _ _ f2
      replace hM := hM.more S13
      replace f3 := S13 _ _ f3
      replace hQ := hQ.more S13
      replace f4 := S13 _ _ f4
      clear S13 s14 s13 s12 S12 S10 e13 e12 hVp e10 hV10 hTab8 hM8 hQ8 g1 g2 g3 g4 e8 hV12 sm12 hlpr h13 hR2 hE2 hW2
      generalize H13 = H5 at *
      walk_at "st"
      refine ⟨⟨_, SqL.of ew⟩, cp_list (xs := iL ws) (fun i ys H2 => ys = iL ((ws.map (0 - ·)).take i) ∧ i ≤ ws.length ∧ H5 = H2) ⟨by simp, Nat.zero_le _, rfl⟩ ?_ (szlt (by simp [iL]; omega)) ?_ ?_⟩
      · rintro i ys H2 ⟨rfl, hi, rfl⟩
        exact ⟨SqL.of ew, by simp [iL]; omega⟩
      · rintro i x ys H2 hx ⟨rfl, hi, rfl⟩
        rw [List.getElem?_map] at hx
        obtain ⟨z, hzi, rfl⟩ := Option.map_eq_some_iff.mp hx
        have hil : i < ws.length := (List.getElem?_eq_some_iff.mp hzi).1
        walk_at "st"
        refine ⟨?_, by omega, rfl⟩
        rw [take_snoc_get (show (ws.map (0 - ·))[i]? = some (0 - z) by rw [List.getElem?_map, hzi]; rfl)]
        simp [iL]
      rintro lw2 ys H6 ⟨rfl, _, rfl⟩ hlw2
      rw [List.take_of_length_le (by simp [iL])]
      have s6 := same_upd (o := .lst (iL (ws.map (0 - ·)))) hlw2
      have ew2 : upd H5 lw2 (.lst (iL (ws.map (0 - ·)))) lw2 = some (.lst (iL (ws.map (0 - ·)))) := upd_same
      generalize upd H5 lw2 (.lst (iL (ws.map (0 - ·)))) = H6 at *
      have er6 := s6 _ _ er
      have hrl3 : (hd :: r).length ≤ 13 := by simp; omega
      walk_at "st"
      refine ⟨⟨_, SqL.of er6⟩, cp_list (xs := iL (hd :: r)) (fun i ys H2 => ys = iL (((hd :: r).map (0 - ·)).take i) ∧ i ≤ (hd :: r).length ∧ H6 = H2) ⟨by simp, Nat.zero_le _, rfl⟩ ?_ (szlt (by simp [iL]; omega)) ?_ ?_⟩
      · rintro i ys H2 ⟨rfl, hi, rfl⟩
        exact ⟨SqL.of er6, by simp [iL]; omega⟩
      · rintro i x ys H2 hx ⟨rfl, hi, rfl⟩
        rw [List.getElem?_map] at hx
        obtain ⟨z, hzi, rfl⟩ := Option.map_eq_some_iff.mp hx
        have hil : i < (hd :: r).length := (List.getElem?_eq_some_iff.mp hzi).1
        walk_at "st"
        refine ⟨?_, by omega, rfl⟩
        rw [take_snoc_get (show ((hd :: r).map (0 - ·))[i]? = some (0 - z) by rw [List.getElem?_map, hzi]; rfl)]
        simp [iL]
      rintro lr2 ys H7 ⟨rfl, _, rfl⟩ hlr2
      rw [List.take_of_length_le (by simp [iL])]
      have s7 := same_upd (o := .lst (iL ((hd :: r).map (0 - ·)))) hlr2
      have er7 : upd H6 lr2 (.lst (iL ((hd :: r).map (0 - ·)))) lr2 = some (.lst (iL ((hd :: r).map (0 - ·)))) := upd_same
      generalize upd H6 lr2 (.lst (iL ((hd :: r).map (0 - ·)))) = H7 at *
      have S7 := s6.trans s7
      have ew7 := s7 _ _ ew2
      clear s6 s7 er6 ew2
      walk_at "st"
      have hR2 : runs ps (ws.map (0 - ·)) ((0 - hd) :: r.map (0 - ·)) = (R'.map fun R => R.map (0 - ·)) ++ [g.map (0 - ·)] := by
        rw [show (0 - hd) :: r.map (0 - ·) = (hd :: r).map (0 - ·) from rfl, runs_ov ps hT.2.2, hR, List.map_append]; rfl
      have hE2 : (0 - hd) :: r.map (0 - ·) = (q'.map (0 - ·)) ++ [(0 - e)] := by rw [show (0 - hd) :: r.map (0 - ·) = (hd :: r).map (0 - ·) from rfl, hE, List.map_append]; rfl
      have hW2 : ws.map (0 - ·) = (w'.map (0 - ·)) ++ [(0 - wl)] := by rw [hW, List.map_append]; rfl
      refine ⟨lp, lw2, lr2, ps, ws.map (0 - ·), r.map (0 - ·), (0 - hd), _, _, _, _, d', dd, _, _, rfl, S7 _ _ ep, ew7, er7, hT, ⟨by simpa using hwl, ov_stand (ps := ps) hSt.2⟩, by simpa using hrl, hR2, hE2, hD, hW2, fun t2 m1 vs2 m2 ts2 m3 qs2 m4 H8 s8 e8 g1 hTab8 g2 hM8 g3 hQ8 g4 => ?_⟩
      rw [show (0 - hd) :: r.map (0 - ·) = (hd :: r).map (0 - ·) from rfl] at hTab8 hM8 g4
      rw [T1_ov hd (hd :: r) e hT.2.2 (by omega) hwl hgl] at hTab8
      rw [T2_ov] at hM8
      rw [told_ov (by omega) hwl hgl] at hQ8
      rw [gw_ov _ _ hdd, toldRow_ov (by omega) hwl hgl, way_ov] at g4
      have S8 := S7.trans s8
      clear S7 s8 ew7 er7
      walk_at "st"
      refine i_ixT (SqT.of (S8 _ _ e5)) (by decide) (v := .ref l1) rfl ?_
      walk_at "st"
      refine ⟨⟨_, SqL.of (S8 _ _ f1)⟩, cp_list (xs := us.map V.ref) (fun i ys H2 => ∃ vs : List Addr, ys = vs.map V.ref ∧ vs.length = i ∧ Same H8 H2 ∧ TabAt H2 vs (((T1 ps hd ws (hd :: r) e g).take i).map fun R => R.map (0 - ·))) ⟨[], rfl, rfl, Same.refl _, .nil⟩ ?_ (szlt (by simp; omega)) ?_ ?_⟩
      · rintro i ys H2 ⟨vs, rfl, hvl, sm, _⟩
        exact ⟨SqL.of (sm _ _ (S8 _ _ f1)), by simp; omega⟩
      · rintro i x ys H2 hx ⟨vs, rfl, hvl, sm, hV⟩
        rw [List.getElem?_map] at hx
        obtain ⟨u, hui, rfl⟩ := Option.map_eq_some_iff.mp hx
        obtain ⟨L0, hL0, hSt0⟩ := paired_getL hTab hui
        have hll := hlens L0 (List.mem_of_getElem? hL0)
        walk_at "st"
        refine ⟨⟨_, SqL.of (sm _ _ (S8 _ _ hSt0))⟩, cp_list (xs := iL L0) (fun j ys2 H9 => ys2 = iL ((L0.map (0 - ·)).take j) ∧ j ≤ L0.length ∧ H2 = H9) ⟨by simp, Nat.zero_le _, rfl⟩ ?_ (szlt (by simp [iL]; omega)) ?_ ?_⟩
        · rintro j ys2 H9 ⟨rfl, hj, rfl⟩
          exact ⟨SqL.of (sm _ _ (S8 _ _ hSt0)), by simp [iL]; omega⟩
        · rintro j x ys2 H9 hx ⟨rfl, hj, rfl⟩
          rw [List.getElem?_map] at hx
          obtain ⟨z, hzi, rfl⟩ := Option.map_eq_some_iff.mp hx
          have hil : j < L0.length := (List.getElem?_eq_some_iff.mp hzi).1
          walk_at "st"
          refine ⟨?_, by omega, rfl⟩
          rw [take_snoc_get (show (L0.map (0 - ·))[j]? = some (0 - z) by rw [List.getElem?_map, hzi]; rfl)]
          simp [iL]
        rintro ln ys2 H9 ⟨rfl, _, rfl⟩ hln
        rw [List.take_of_length_le (by simp [iL])]
        have s12 := same_upd (o := .lst (iL (L0.map (0 - ·)))) hln
        refine ⟨vs ++ [ln], by simp, by simp; omega, sm.trans s12, ?_⟩
        rw [take_snoc_get hL0, List.map_append]
        exact Paired.snoc (hV.more s12) upd_same
      rintro ldue ys H9 ⟨vs, rfl, hvl, sm9, hV⟩ hld
      rw [List.take_of_length_le (by rw [← hTab.length]; simp)] at hV
      have s10 := sm9.trans (same_upd (o := .lst (vs.map V.ref)) hld)
      have e10 : upd H9 ldue (.lst (vs.map V.ref)) ldue = some (.lst (vs.map V.ref)) := upd_same
      have hV10 := hV.more (same_upd (o := .lst (vs.map V.ref)) hld)
      generalize upd H9 ldue (.lst (vs.map V.ref)) = H10 at *
      have S10 := S8.trans s10
      replace e8 := s10 _ _ e8
      replace g1 := s10 _ _ g1
      replace hTab8 := hTab8.more s10
      replace g2 := s10 _ _ g2
      replace hM8 := hM8.more s10
      replace g3 := s10 _ _ g3
      replace hQ8 := hQ8.more s10
      replace g4 := s10 _ _ g4
      clear S8 s10 sm9 hV hld
      walk_at "st"
      refine i_ixT (SqT.of (S10 _ _ e5)) (by decide) (v := .ref l3) rfl ?_
      walk_at "st"
      refine ⟨⟨_, SqL.of (S10 _ _ f3)⟩, cp_list (xs := qs.map V.ref) (fun i ys H2 => ∃ vs : List Addr, ys = vs.map V.ref ∧ vs.length = i ∧ Same H10 H2 ∧ MsAt H2 vs (((told ps hd ws e g).take i).map M.flip)) ⟨[], rfl, rfl, Same.refl _, .nil⟩ ?_ (szlt (by simp; omega)) ?_ ?_⟩
      · rintro i ys H2 ⟨vs, rfl, hvl, sm, _⟩
        exact ⟨SqL.of (sm _ _ (S10 _ _ f3)), by simp; omega⟩
      · rintro i x ys H2 hx ⟨vs, rfl, hvl, sm, hV⟩
        rw [List.getElem?_map] at hx
        obtain ⟨u, hui, rfl⟩ := Option.map_eq_some_iff.mp hx
        obtain ⟨m, hmi, hTm⟩ := paired_getL hQ hui
        walk_at "st"
        refine ⟨_, _, rfl, SqT.of (sm _ _ (S10 _ _ hTm)), rfl, _, _, rfl, _, _, rfl, rfl, ?_⟩
        walk_at "st"
        intro v hv
        have s12 := same_upd (o := .tup [.int m.1, .int (0 - m.2)]) hv
        refine ⟨vs ++ [v], by simp, by simp; omega, sm.trans s12, ?_⟩
        rw [take_snoc_get hmi, List.map_append]
        exact Paired.snoc (hV.more s12) upd_same
      rintro lmu ys H11 ⟨vs3, rfl, hvl3, sm11, hV11⟩ hlmu
      rw [List.take_of_length_le (by rw [← hQ.length]; simp)] at hV11
      have s11 := sm11.trans (same_upd (o := .lst (vs3.map V.ref)) hlmu)
      have e11 : upd H11 lmu (.lst (vs3.map V.ref)) lmu = some (.lst (vs3.map V.ref)) := upd_same
      have hVm := hV11.more (same_upd (o := .lst (vs3.map V.ref)) hlmu)
      generalize upd H11 lmu (.lst (vs3.map V.ref)) = H11 at *
      replace S10 := S10.trans s11
      replace e8 := s11 _ _ e8
      replace g1 := s11 _ _ g1
      replace hTab8 := hTab8.more s11
      replace g2 := s11 _ _ g2
      replace hM8 := hM8.more s11
      replace g3 := s11 _ _ g3
      replace hQ8 := hQ8.more s11
      replace g4 := s11 _ _ g4
      replace e10 := s11 _ _ e10
      replace hV10 := hV10.more s11
      clear s11 sm11 hV11 hlmu
      walk_at "st"
      refine i_ixT (SqT.of (S10 _ _ e5)) (by decide) (v := .ref l2) rfl ?_
      walk_at "st"
      refine ⟨⟨_, SqL.of (S10 _ _ f2)⟩, cp_list (xs := ts.map V.ref) (fun i ys H2 => ∃ vs : List Addr, ys = vs.map V.ref ∧ vs.length = i ∧ Same H11 H2 ∧ MsAt H2 vs (((swF (turn (moves (hd :: r))) [] []).2.take i).map fun p => (0 - p.2, 0 - p.1))) ⟨[], rfl, rfl, Same.refl _, .nil⟩ ?_ (szlt (by simp; omega)) ?_ ?_⟩
      · rintro i ys H2 ⟨vs, rfl, hvl, sm, _⟩
        exact ⟨SqL.of (sm _ _ (S10 _ _ f2)), by simp; omega⟩
      · rintro i x ys H2 hx ⟨vs, rfl, hvl, sm, hV⟩
        rw [List.getElem?_map] at hx
        obtain ⟨u, hui, rfl⟩ := Option.map_eq_some_iff.mp hx
        obtain ⟨m, hmi, hTm⟩ := paired_getL hM hui
        walk_at "st"
        refine ⟨_, _, rfl, SqT.of (sm _ _ (S10 _ _ hTm)), rfl, _, _, rfl, _, _, rfl, rfl, ?_⟩
        walk_at "st"
        intro v hv
        have s12 := same_upd (o := .tup [.int (0 - m.2), .int (0 - m.1)]) hv
        refine ⟨vs ++ [v], by simp, by simp; omega, sm.trans s12, ?_⟩
        rw [take_snoc_get hmi, List.map_append]
        exact Paired.snoc (hV.more s12) upd_same
      rintro lpr ys H12 ⟨vs4, rfl, hvl4, sm12, hV12⟩ hlpr
      rw [List.take_of_length_le (by rw [← hM.length]; simp)] at hV12
      have s12 := sm12.trans (same_upd (o := .lst (vs4.map V.ref)) hlpr)
      have e12 : upd H12 lpr (.lst (vs4.map V.ref)) lpr = some (.lst (vs4.map V.ref)) := upd_same
      have hVp := hV12.more (same_upd (o := .lst (vs4.map V.ref)) hlpr)
      generalize upd H12 lpr (.lst (vs4.map V.ref)) = H12 at *
      have S12 := S10.trans s12
      walk_at "st"
      refine i_ixT (SqT.of (S12 _ _ e5)) (by decide) (v := .ref l4) rfl ?_
      walk_at "st"
      intro t13 h13
      have s13 := same_upd (o := .tup [.ref ldue, .ref lpr, .ref lmu, .ref l4]) h13
      have e13 : upd H12 t13 (.tup [.ref ldue, .ref lpr, .ref lmu, .ref l4]) t13 = some (.tup [.ref ldue, .ref lpr, .ref lmu, .ref l4]) := upd_same
      generalize upd H12 t13 (.tup [.ref ldue, .ref lpr, .ref lmu, .ref l4]) = H13 at *
      have s14 := s12.trans s13
      have S13 := S12.trans s13
      refine i_neSame (.tuple [.list (((T1 ps hd ws (hd :: r) e g).map fun R => R.map (0 - ·)).map pL), .list (((swF (turn (moves (hd :: r))) [] []).2.map fun p => (0 - p.2, 0 - p.1)).map pM), .list (((told ps hd ws e g).map M.flip).map pM), pL [gw dd wl (hd :: r), way hd (toldRow ps hd ws e g)]])
        (pd_tup (SqT.of (s14 _ _ e8)) (.cons (pd_lst (SqL.of (s14 _ _ g1)) (pd_tab (hTab8.more s14))) (.cons (pd_lst (SqL.of (s14 _ _ g2)) (pd_musts (hM8.more s14))) (.cons (pd_lst (SqL.of (s14 _ _ g3)) (pd_musts (hQ8.more s14))) (.cons (pd_ints (SqL.of (s14 _ _ g4))) .nil)))))
        (pd_tup (SqT.of e13) (.cons (pd_lst (SqL.of (s14 _ _ e10)) (pd_tab (hV10.more s14))) (.cons (pd_lst (SqL.of (s13 _ _ e12)) (pd_musts (hVp.more s13))) (.cons (pd_lst (SqL.of (s14 _ _ e11)) (pd_musts (hVm.more s14))) (.cons (pd_ints (SqL.of (S13 _ _ f4))) .nil))))) ?_
      walk_at "st"
      exact ⟨_, _, _, _, _, _, _, _, _, _, rfl, S13 _ _ e4⟩
    · rintro σ H3 ⟨u2, u3, u4, u5, u6, u7, u8, u9, u10, u11, rfl, e3⟩
      walk_at "st"
      exact k _
end
theorem all_mk {l : PySem.W.OpenLaw} {w : World} {K : PySem.W.Frag} {h : Heap} {mg : Str → Option Value} {fa : Addr} (X : K.In h) (G : h.Ns mainGlobals mg) (hfa : mg "law" = some (.ref fa))
    {f_law_draws : Addr} {od_law_draws an_law_draws : Option Addr} {sl_law_draws : Array (Option Value)} {oc_law_draws kV_law_draws dc_law_draws pm_law_draws cd_law_draws ct_law_draws : Value}
    {f_moves_of : Addr} {od_moves_of an_moves_of : Option Addr} {sl_moves_of : Array (Option Value)} {oc_moves_of kV_moves_of dc_moves_of pm_moves_of cd_moves_of ct_moves_of : Value}
    {f_turning_of : Addr} {od_turning_of an_turning_of : Option Addr} {sl_turning_of : Array (Option Value)} {oc_turning_of kV_turning_of dc_turning_of pm_turning_of cd_turning_of ct_turning_of : Value}
    {f_standing_of : Addr} {od_standing_of an_standing_of : Option Addr} {sl_standing_of : Array (Option Value)} {oc_standing_of kV_standing_of dc_standing_of pm_standing_of cd_standing_of ct_standing_of : Value}
    {f_is_train : Addr} {od_is_train an_is_train : Option Addr} {sl_is_train : Array (Option Value)} {oc_is_train kV_is_train dc_is_train pm_is_train cd_is_train ct_is_train : Value}
    {f_refuse_no_train : Addr} {od_refuse_no_train an_refuse_no_train : Option Addr} {sl_refuse_no_train : Array (Option Value)} {oc_refuse_no_train kV_refuse_no_train dc_refuse_no_train pm_refuse_no_train cd_refuse_no_train ct_refuse_no_train : Value}
    {f_keeps_plays : Addr} {od_keeps_plays an_keeps_plays : Option Addr} {sl_keeps_plays : Array (Option Value)} {oc_keeps_plays kV_keeps_plays dc_keeps_plays pm_keeps_plays cd_keeps_plays ct_keeps_plays : Value}
    {f_is_stand : Addr} {od_is_stand an_is_stand : Option Addr} {sl_is_stand : Array (Option Value)} {oc_is_stand kV_is_stand dc_is_stand pm_is_stand cd_is_stand ct_is_stand : Value}
    {f_refuse_no_stand : Addr} {od_refuse_no_stand an_refuse_no_stand : Option Addr} {sl_refuse_no_stand : Array (Option Value)} {oc_refuse_no_stand kV_refuse_no_stand dc_refuse_no_stand pm_refuse_no_stand cd_refuse_no_stand ct_refuse_no_stand : Value}
    {f_dragged : Addr} {od_dragged an_dragged : Option Addr} {sl_dragged : Array (Option Value)} {oc_dragged kV_dragged dc_dragged pm_dragged cd_dragged ct_dragged : Value}
    {f_all_dragged : Addr} {od_all_dragged an_all_dragged : Option Addr} {sl_all_dragged : Array (Option Value)} {oc_all_dragged kV_all_dragged dc_all_dragged pm_all_dragged cd_all_dragged ct_all_dragged : Value}
    {f_run_of : Addr} {od_run_of an_run_of : Option Addr} {sl_run_of : Array (Option Value)} {oc_run_of kV_run_of dc_run_of pm_run_of cd_run_of ct_run_of : Value}
    {f_depths_of : Addr} {od_depths_of an_depths_of : Option Addr} {sl_depths_of : Array (Option Value)} {oc_depths_of kV_depths_of dc_depths_of pm_depths_of cd_depths_of ct_depths_of : Value}
    {f_hung_row : Addr} {od_hung_row an_hung_row : Option Addr} {sl_hung_row : Array (Option Value)} {oc_hung_row kV_hung_row dc_hung_row pm_hung_row cd_hung_row ct_hung_row : Value}
    {f_pieces_of : Addr} {od_pieces_of an_pieces_of : Option Addr} {sl_pieces_of : Array (Option Value)} {oc_pieces_of kV_pieces_of dc_pieces_of pm_pieces_of cd_pieces_of ct_pieces_of : Value}
    {f_refuse_no_errand : Addr} {od_refuse_no_errand an_refuse_no_errand : Option Addr} {sl_refuse_no_errand : Array (Option Value)} {oc_refuse_no_errand kV_refuse_no_errand dc_refuse_no_errand pm_refuse_no_errand cd_refuse_no_errand ct_refuse_no_errand : Value}
    {f_must_place : Addr} {od_must_place an_must_place : Option Addr} {sl_must_place : Array (Option Value)} {oc_must_place kV_must_place dc_must_place pm_must_place cd_must_place ct_must_place : Value}
    {f_side_to_go : Addr} {od_side_to_go an_side_to_go : Option Addr} {sl_side_to_go : Array (Option Value)} {oc_side_to_go kV_side_to_go dc_side_to_go pm_side_to_go cd_side_to_go ct_side_to_go : Value}
    {f_is_beyond : Addr} {od_is_beyond an_is_beyond : Option Addr} {sl_is_beyond : Array (Option Value)} {oc_is_beyond kV_is_beyond dc_is_beyond pm_is_beyond cd_is_beyond ct_is_beyond : Value}
    {f_first_musts : Addr} {od_first_musts an_first_musts : Option Addr} {sl_first_musts : Array (Option Value)} {oc_first_musts kV_first_musts dc_first_musts pm_first_musts cd_first_musts ct_first_musts : Value}
    {f_paper_of : Addr} {od_paper_of an_paper_of : Option Addr} {sl_paper_of : Array (Option Value)} {oc_paper_of kV_paper_of dc_paper_of pm_paper_of cd_paper_of ct_paper_of : Value}
    {f_least_row : Addr} {od_least_row an_least_row : Option Addr} {sl_least_row : Array (Option Value)} {oc_least_row kV_least_row dc_least_row pm_least_row cd_least_row ct_least_row : Value}
    {f_way_of : Addr} {od_way_of an_way_of : Option Addr} {sl_way_of : Array (Option Value)} {oc_way_of kV_way_of dc_way_of pm_way_of cd_way_of ct_way_of : Value}
    {f_least_of : Addr} {od_least_of an_least_of : Option Addr} {sl_least_of : Array (Option Value)} {oc_least_of kV_least_of dc_least_of pm_least_of cd_least_of ct_least_of : Value}
    {f_has_swing : Addr} {od_has_swing an_has_swing : Option Addr} {sl_has_swing : Array (Option Value)} {oc_has_swing kV_has_swing dc_has_swing pm_has_swing cd_has_swing ct_has_swing : Value}
    {f_swings_of : Addr} {od_swings_of an_swings_of : Option Addr} {sl_swings_of : Array (Option Value)} {oc_swings_of kV_swings_of dc_swings_of pm_swings_of cd_swings_of ct_swings_of : Value}
    {f_wheel_way : Addr} {od_wheel_way an_wheel_way : Option Addr} {sl_wheel_way : Array (Option Value)} {oc_wheel_way kV_wheel_way dc_wheel_way pm_wheel_way cd_wheel_way ct_wheel_way : Value}
    {f_law_case : Addr} {od_law_case an_law_case : Option Addr} {sl_law_case : Array (Option Value)} {oc_law_case kV_law_case dc_law_case pm_law_case cd_law_case ct_law_case : Value}
    {f_law_told : Addr} {od_law_told an_law_told : Option Addr} {sl_law_told : Array (Option Value)} {oc_law_told kV_law_told dc_law_told pm_law_told cd_law_told ct_law_told : Value}
    {f_law : Addr} {od_law an_law : Option Addr} {sl_law : Array (Option Value)} {oc_law kV_law dc_law pm_law cd_law ct_law : Value}
    {t_MOST_PLAYS : Tok}
    (a_law_draws : PySem.W.nsIn K mainGlobals "_law_draws" = some (some (.ref f_law_draws))) (l_law_draws : K.lookup f_law_draws = some ⟨oc_law_draws, od_law_draws, .func (PySem.W.fnOf "_law_draws" "_law_draws" (defArgs s_law_draws) (defBody s_law_draws) (defScope s_law_draws) .none kV_law_draws dc_law_draws pm_law_draws an_law_draws cd_law_draws ct_law_draws), sl_law_draws⟩) (c_law_draws : PySem.W.codeIn K cd_law_draws "_law_draws" = true) (k_law_draws : PySem.W.keepIn K (.ref f_law_draws) = true)
    (a_moves_of : PySem.W.nsIn K mainGlobals "moves_of" = some (some (.ref f_moves_of))) (l_moves_of : K.lookup f_moves_of = some ⟨oc_moves_of, od_moves_of, .func (PySem.W.fnOf "moves_of" "moves_of" (defArgs s_moves_of) (defBody s_moves_of) (defScope s_moves_of) .none kV_moves_of dc_moves_of pm_moves_of an_moves_of cd_moves_of ct_moves_of), sl_moves_of⟩) (c_moves_of : PySem.W.codeIn K cd_moves_of "moves_of" = true) (k_moves_of : PySem.W.keepIn K (.ref f_moves_of) = true)
    (a_turning_of : PySem.W.nsIn K mainGlobals "turning_of" = some (some (.ref f_turning_of))) (l_turning_of : K.lookup f_turning_of = some ⟨oc_turning_of, od_turning_of, .func (PySem.W.fnOf "turning_of" "turning_of" (defArgs s_turning_of) (defBody s_turning_of) (defScope s_turning_of) .none kV_turning_of dc_turning_of pm_turning_of an_turning_of cd_turning_of ct_turning_of), sl_turning_of⟩) (c_turning_of : PySem.W.codeIn K cd_turning_of "turning_of" = true) (k_turning_of : PySem.W.keepIn K (.ref f_turning_of) = true)
    (a_standing_of : PySem.W.nsIn K mainGlobals "standing_of" = some (some (.ref f_standing_of))) (l_standing_of : K.lookup f_standing_of = some ⟨oc_standing_of, od_standing_of, .func (PySem.W.fnOf "standing_of" "standing_of" (defArgs s_standing_of) (defBody s_standing_of) (defScope s_standing_of) .none kV_standing_of dc_standing_of pm_standing_of an_standing_of cd_standing_of ct_standing_of), sl_standing_of⟩) (c_standing_of : PySem.W.codeIn K cd_standing_of "standing_of" = true) (k_standing_of : PySem.W.keepIn K (.ref f_standing_of) = true)
    (a_is_train : PySem.W.nsIn K mainGlobals "is_train" = some (some (.ref f_is_train))) (l_is_train : K.lookup f_is_train = some ⟨oc_is_train, od_is_train, .func (PySem.W.fnOf "is_train" "is_train" (defArgs s_is_train) (defBody s_is_train) (defScope s_is_train) .none kV_is_train dc_is_train pm_is_train an_is_train cd_is_train ct_is_train), sl_is_train⟩) (c_is_train : PySem.W.codeIn K cd_is_train "is_train" = true) (k_is_train : PySem.W.keepIn K (.ref f_is_train) = true)
    (a_refuse_no_train : PySem.W.nsIn K mainGlobals "refuse_no_train" = some (some (.ref f_refuse_no_train))) (l_refuse_no_train : K.lookup f_refuse_no_train = some ⟨oc_refuse_no_train, od_refuse_no_train, .func (PySem.W.fnOf "refuse_no_train" "refuse_no_train" (defArgs s_refuse_no_train) (defBody s_refuse_no_train) (defScope s_refuse_no_train) .none kV_refuse_no_train dc_refuse_no_train pm_refuse_no_train an_refuse_no_train cd_refuse_no_train ct_refuse_no_train), sl_refuse_no_train⟩) (c_refuse_no_train : PySem.W.codeIn K cd_refuse_no_train "refuse_no_train" = true) (k_refuse_no_train : PySem.W.keepIn K (.ref f_refuse_no_train) = true)
    (a_keeps_plays : PySem.W.nsIn K mainGlobals "keeps_plays" = some (some (.ref f_keeps_plays))) (l_keeps_plays : K.lookup f_keeps_plays = some ⟨oc_keeps_plays, od_keeps_plays, .func (PySem.W.fnOf "keeps_plays" "keeps_plays" (defArgs s_keeps_plays) (defBody s_keeps_plays) (defScope s_keeps_plays) .none kV_keeps_plays dc_keeps_plays pm_keeps_plays an_keeps_plays cd_keeps_plays ct_keeps_plays), sl_keeps_plays⟩) (c_keeps_plays : PySem.W.codeIn K cd_keeps_plays "keeps_plays" = true) (k_keeps_plays : PySem.W.keepIn K (.ref f_keeps_plays) = true)
    (a_is_stand : PySem.W.nsIn K mainGlobals "is_stand" = some (some (.ref f_is_stand))) (l_is_stand : K.lookup f_is_stand = some ⟨oc_is_stand, od_is_stand, .func (PySem.W.fnOf "is_stand" "is_stand" (defArgs s_is_stand) (defBody s_is_stand) (defScope s_is_stand) .none kV_is_stand dc_is_stand pm_is_stand an_is_stand cd_is_stand ct_is_stand), sl_is_stand⟩) (c_is_stand : PySem.W.codeIn K cd_is_stand "is_stand" = true) (k_is_stand : PySem.W.keepIn K (.ref f_is_stand) = true)
    (a_refuse_no_stand : PySem.W.nsIn K mainGlobals "refuse_no_stand" = some (some (.ref f_refuse_no_stand))) (l_refuse_no_stand : K.lookup f_refuse_no_stand = some ⟨oc_refuse_no_stand, od_refuse_no_stand, .func (PySem.W.fnOf "refuse_no_stand" "refuse_no_stand" (defArgs s_refuse_no_stand) (defBody s_refuse_no_stand) (defScope s_refuse_no_stand) .none kV_refuse_no_stand dc_refuse_no_stand pm_refuse_no_stand an_refuse_no_stand cd_refuse_no_stand ct_refuse_no_stand), sl_refuse_no_stand⟩) (c_refuse_no_stand : PySem.W.codeIn K cd_refuse_no_stand "refuse_no_stand" = true) (k_refuse_no_stand : PySem.W.keepIn K (.ref f_refuse_no_stand) = true)
    (a_dragged : PySem.W.nsIn K mainGlobals "dragged" = some (some (.ref f_dragged))) (l_dragged : K.lookup f_dragged = some ⟨oc_dragged, od_dragged, .func (PySem.W.fnOf "dragged" "dragged" (defArgs s_dragged) (defBody s_dragged) (defScope s_dragged) .none kV_dragged dc_dragged pm_dragged an_dragged cd_dragged ct_dragged), sl_dragged⟩) (c_dragged : PySem.W.codeIn K cd_dragged "dragged" = true) (k_dragged : PySem.W.keepIn K (.ref f_dragged) = true)
    (a_all_dragged : PySem.W.nsIn K mainGlobals "all_dragged" = some (some (.ref f_all_dragged))) (l_all_dragged : K.lookup f_all_dragged = some ⟨oc_all_dragged, od_all_dragged, .func (PySem.W.fnOf "all_dragged" "all_dragged" (defArgs s_all_dragged) (defBody s_all_dragged) (defScope s_all_dragged) .none kV_all_dragged dc_all_dragged pm_all_dragged an_all_dragged cd_all_dragged ct_all_dragged), sl_all_dragged⟩) (c_all_dragged : PySem.W.codeIn K cd_all_dragged "all_dragged" = true) (k_all_dragged : PySem.W.keepIn K (.ref f_all_dragged) = true)
    (a_run_of : PySem.W.nsIn K mainGlobals "run_of" = some (some (.ref f_run_of))) (l_run_of : K.lookup f_run_of = some ⟨oc_run_of, od_run_of, .func (PySem.W.fnOf "run_of" "run_of" (defArgs s_run_of) (defBody s_run_of) (defScope s_run_of) .none kV_run_of dc_run_of pm_run_of an_run_of cd_run_of ct_run_of), sl_run_of⟩) (c_run_of : PySem.W.codeIn K cd_run_of "run_of" = true) (k_run_of : PySem.W.keepIn K (.ref f_run_of) = true)
    (a_depths_of : PySem.W.nsIn K mainGlobals "depths_of" = some (some (.ref f_depths_of))) (l_depths_of : K.lookup f_depths_of = some ⟨oc_depths_of, od_depths_of, .func (PySem.W.fnOf "depths_of" "depths_of" (defArgs s_depths_of) (defBody s_depths_of) (defScope s_depths_of) .none kV_depths_of dc_depths_of pm_depths_of an_depths_of cd_depths_of ct_depths_of), sl_depths_of⟩) (c_depths_of : PySem.W.codeIn K cd_depths_of "depths_of" = true) (k_depths_of : PySem.W.keepIn K (.ref f_depths_of) = true)
    (a_hung_row : PySem.W.nsIn K mainGlobals "hung_row" = some (some (.ref f_hung_row))) (l_hung_row : K.lookup f_hung_row = some ⟨oc_hung_row, od_hung_row, .func (PySem.W.fnOf "hung_row" "hung_row" (defArgs s_hung_row) (defBody s_hung_row) (defScope s_hung_row) .none kV_hung_row dc_hung_row pm_hung_row an_hung_row cd_hung_row ct_hung_row), sl_hung_row⟩) (c_hung_row : PySem.W.codeIn K cd_hung_row "hung_row" = true) (k_hung_row : PySem.W.keepIn K (.ref f_hung_row) = true)
    (a_pieces_of : PySem.W.nsIn K mainGlobals "pieces_of" = some (some (.ref f_pieces_of))) (l_pieces_of : K.lookup f_pieces_of = some ⟨oc_pieces_of, od_pieces_of, .func (PySem.W.fnOf "pieces_of" "pieces_of" (defArgs s_pieces_of) (defBody s_pieces_of) (defScope s_pieces_of) .none kV_pieces_of dc_pieces_of pm_pieces_of an_pieces_of cd_pieces_of ct_pieces_of), sl_pieces_of⟩) (c_pieces_of : PySem.W.codeIn K cd_pieces_of "pieces_of" = true) (k_pieces_of : PySem.W.keepIn K (.ref f_pieces_of) = true)
    (a_refuse_no_errand : PySem.W.nsIn K mainGlobals "refuse_no_errand" = some (some (.ref f_refuse_no_errand))) (l_refuse_no_errand : K.lookup f_refuse_no_errand = some ⟨oc_refuse_no_errand, od_refuse_no_errand, .func (PySem.W.fnOf "refuse_no_errand" "refuse_no_errand" (defArgs s_refuse_no_errand) (defBody s_refuse_no_errand) (defScope s_refuse_no_errand) .none kV_refuse_no_errand dc_refuse_no_errand pm_refuse_no_errand an_refuse_no_errand cd_refuse_no_errand ct_refuse_no_errand), sl_refuse_no_errand⟩) (c_refuse_no_errand : PySem.W.codeIn K cd_refuse_no_errand "refuse_no_errand" = true) (k_refuse_no_errand : PySem.W.keepIn K (.ref f_refuse_no_errand) = true)
    (a_must_place : PySem.W.nsIn K mainGlobals "must_place" = some (some (.ref f_must_place))) (l_must_place : K.lookup f_must_place = some ⟨oc_must_place, od_must_place, .func (PySem.W.fnOf "must_place" "must_place" (defArgs s_must_place) (defBody s_must_place) (defScope s_must_place) .none kV_must_place dc_must_place pm_must_place an_must_place cd_must_place ct_must_place), sl_must_place⟩) (c_must_place : PySem.W.codeIn K cd_must_place "must_place" = true) (k_must_place : PySem.W.keepIn K (.ref f_must_place) = true)
    (a_side_to_go : PySem.W.nsIn K mainGlobals "side_to_go" = some (some (.ref f_side_to_go))) (l_side_to_go : K.lookup f_side_to_go = some ⟨oc_side_to_go, od_side_to_go, .func (PySem.W.fnOf "side_to_go" "side_to_go" (defArgs s_side_to_go) (defBody s_side_to_go) (defScope s_side_to_go) .none kV_side_to_go dc_side_to_go pm_side_to_go an_side_to_go cd_side_to_go ct_side_to_go), sl_side_to_go⟩) (c_side_to_go : PySem.W.codeIn K cd_side_to_go "side_to_go" = true) (k_side_to_go : PySem.W.keepIn K (.ref f_side_to_go) = true)
    (a_is_beyond : PySem.W.nsIn K mainGlobals "is_beyond" = some (some (.ref f_is_beyond))) (l_is_beyond : K.lookup f_is_beyond = some ⟨oc_is_beyond, od_is_beyond, .func (PySem.W.fnOf "is_beyond" "is_beyond" (defArgs s_is_beyond) (defBody s_is_beyond) (defScope s_is_beyond) .none kV_is_beyond dc_is_beyond pm_is_beyond an_is_beyond cd_is_beyond ct_is_beyond), sl_is_beyond⟩) (c_is_beyond : PySem.W.codeIn K cd_is_beyond "is_beyond" = true) (k_is_beyond : PySem.W.keepIn K (.ref f_is_beyond) = true)
    (a_first_musts : PySem.W.nsIn K mainGlobals "first_musts" = some (some (.ref f_first_musts))) (l_first_musts : K.lookup f_first_musts = some ⟨oc_first_musts, od_first_musts, .func (PySem.W.fnOf "first_musts" "first_musts" (defArgs s_first_musts) (defBody s_first_musts) (defScope s_first_musts) .none kV_first_musts dc_first_musts pm_first_musts an_first_musts cd_first_musts ct_first_musts), sl_first_musts⟩) (c_first_musts : PySem.W.codeIn K cd_first_musts "first_musts" = true) (k_first_musts : PySem.W.keepIn K (.ref f_first_musts) = true)
    (a_paper_of : PySem.W.nsIn K mainGlobals "paper_of" = some (some (.ref f_paper_of))) (l_paper_of : K.lookup f_paper_of = some ⟨oc_paper_of, od_paper_of, .func (PySem.W.fnOf "paper_of" "paper_of" (defArgs s_paper_of) (defBody s_paper_of) (defScope s_paper_of) .none kV_paper_of dc_paper_of pm_paper_of an_paper_of cd_paper_of ct_paper_of), sl_paper_of⟩) (c_paper_of : PySem.W.codeIn K cd_paper_of "paper_of" = true) (k_paper_of : PySem.W.keepIn K (.ref f_paper_of) = true)
    (a_least_row : PySem.W.nsIn K mainGlobals "least_row" = some (some (.ref f_least_row))) (l_least_row : K.lookup f_least_row = some ⟨oc_least_row, od_least_row, .func (PySem.W.fnOf "least_row" "least_row" (defArgs s_least_row) (defBody s_least_row) (defScope s_least_row) .none kV_least_row dc_least_row pm_least_row an_least_row cd_least_row ct_least_row), sl_least_row⟩) (c_least_row : PySem.W.codeIn K cd_least_row "least_row" = true) (k_least_row : PySem.W.keepIn K (.ref f_least_row) = true)
    (a_way_of : PySem.W.nsIn K mainGlobals "way_of" = some (some (.ref f_way_of))) (l_way_of : K.lookup f_way_of = some ⟨oc_way_of, od_way_of, .func (PySem.W.fnOf "way_of" "way_of" (defArgs s_way_of) (defBody s_way_of) (defScope s_way_of) .none kV_way_of dc_way_of pm_way_of an_way_of cd_way_of ct_way_of), sl_way_of⟩) (c_way_of : PySem.W.codeIn K cd_way_of "way_of" = true) (k_way_of : PySem.W.keepIn K (.ref f_way_of) = true)
    (a_least_of : PySem.W.nsIn K mainGlobals "least_of" = some (some (.ref f_least_of))) (l_least_of : K.lookup f_least_of = some ⟨oc_least_of, od_least_of, .func (PySem.W.fnOf "least_of" "least_of" (defArgs s_least_of) (defBody s_least_of) (defScope s_least_of) .none kV_least_of dc_least_of pm_least_of an_least_of cd_least_of ct_least_of), sl_least_of⟩) (c_least_of : PySem.W.codeIn K cd_least_of "least_of" = true) (k_least_of : PySem.W.keepIn K (.ref f_least_of) = true)
    (a_has_swing : PySem.W.nsIn K mainGlobals "has_swing" = some (some (.ref f_has_swing))) (l_has_swing : K.lookup f_has_swing = some ⟨oc_has_swing, od_has_swing, .func (PySem.W.fnOf "has_swing" "has_swing" (defArgs s_has_swing) (defBody s_has_swing) (defScope s_has_swing) .none kV_has_swing dc_has_swing pm_has_swing an_has_swing cd_has_swing ct_has_swing), sl_has_swing⟩) (c_has_swing : PySem.W.codeIn K cd_has_swing "has_swing" = true) (k_has_swing : PySem.W.keepIn K (.ref f_has_swing) = true)
    (a_swings_of : PySem.W.nsIn K mainGlobals "swings_of" = some (some (.ref f_swings_of))) (l_swings_of : K.lookup f_swings_of = some ⟨oc_swings_of, od_swings_of, .func (PySem.W.fnOf "swings_of" "swings_of" (defArgs s_swings_of) (defBody s_swings_of) (defScope s_swings_of) .none kV_swings_of dc_swings_of pm_swings_of an_swings_of cd_swings_of ct_swings_of), sl_swings_of⟩) (c_swings_of : PySem.W.codeIn K cd_swings_of "swings_of" = true) (k_swings_of : PySem.W.keepIn K (.ref f_swings_of) = true)
    (a_wheel_way : PySem.W.nsIn K mainGlobals "wheel_way" = some (some (.ref f_wheel_way))) (l_wheel_way : K.lookup f_wheel_way = some ⟨oc_wheel_way, od_wheel_way, .func (PySem.W.fnOf "wheel_way" "wheel_way" (defArgs s_wheel_way) (defBody s_wheel_way) (defScope s_wheel_way) .none kV_wheel_way dc_wheel_way pm_wheel_way an_wheel_way cd_wheel_way ct_wheel_way), sl_wheel_way⟩) (c_wheel_way : PySem.W.codeIn K cd_wheel_way "wheel_way" = true) (k_wheel_way : PySem.W.keepIn K (.ref f_wheel_way) = true)
    (a_law_case : PySem.W.nsIn K mainGlobals "_law_case" = some (some (.ref f_law_case))) (l_law_case : K.lookup f_law_case = some ⟨oc_law_case, od_law_case, .func (PySem.W.fnOf "_law_case" "_law_case" (defArgs s_law_case) (defBody s_law_case) (defScope s_law_case) .none kV_law_case dc_law_case pm_law_case an_law_case cd_law_case ct_law_case), sl_law_case⟩) (c_law_case : PySem.W.codeIn K cd_law_case "_law_case" = true) (k_law_case : PySem.W.keepIn K (.ref f_law_case) = true)
    (a_law_told : PySem.W.nsIn K mainGlobals "_law_told" = some (some (.ref f_law_told))) (l_law_told : K.lookup f_law_told = some ⟨oc_law_told, od_law_told, .func (PySem.W.fnOf "_law_told" "_law_told" (defArgs s_law_told) (defBody s_law_told) (defScope s_law_told) .none kV_law_told dc_law_told pm_law_told an_law_told cd_law_told ct_law_told), sl_law_told⟩) (c_law_told : PySem.W.codeIn K cd_law_told "_law_told" = true) (k_law_told : PySem.W.keepIn K (.ref f_law_told) = true)
    (a_law : PySem.W.nsIn K mainGlobals "law" = some (some (.ref f_law))) (l_law : K.lookup f_law = some ⟨oc_law, od_law, .func (PySem.W.fnOf "law" "law" (defArgs s_law) (defBody s_law) (defScope s_law) .none kV_law dc_law pm_law an_law cd_law ct_law), sl_law⟩) (c_law : PySem.W.codeIn K cd_law "law" = true) (k_law : PySem.W.keepIn K (.ref f_law) = true)
    (z_abs : PySem.W.nsIn K mainGlobals "abs" = some none)
    (z_enumerate : PySem.W.nsIn K mainGlobals "enumerate" = some none)
    (z_int : PySem.W.nsIn K mainGlobals "int" = some none)
    (z_len : PySem.W.nsIn K mainGlobals "len" = some none)
    (z_max : PySem.W.nsIn K mainGlobals "max" = some none)
    (z_min : PySem.W.nsIn K mainGlobals "min" = some none)
    (z_range : PySem.W.nsIn K mainGlobals "range" = some none)
    (z_sum : PySem.W.nsIn K mainGlobals "sum" = some none)
    (z_zip : PySem.W.nsIn K mainGlobals "zip" = some none)
    (g_MOST_PLAYS : PySem.W.nsIn K mainGlobals "MOST_PLAYS" = some (some (.int 12 t_MOST_PLAYS))) :
    ∃ fd : FuncData, (∀ (s : Shared) (v : Value), BindsTo s fd ⟨[v], []⟩ [("script", v)]) ∧ ∀ base : Heap, K.In base → base.Ns mainGlobals mg → FnOk l.prog w K mg base CX0 11 fa fd ["script"] (spLaw K) := by
  have e := hfa.symm.trans (PySem.W.mg_of X G a_law)
  cases e
  have T : Txt mg := ⟨PySem.W.mg_none_of X G z_abs, PySem.W.mg_none_of X G z_enumerate, PySem.W.mg_none_of X G z_int, PySem.W.mg_none_of X G z_len, PySem.W.mg_none_of X G z_max, PySem.W.mg_none_of X G z_min, PySem.W.mg_none_of X G z_range, PySem.W.mg_none_of X G z_sum, PySem.W.mg_none_of X G z_zip, ⟨_, PySem.W.mg_of X G g_MOST_PLAYS⟩⟩
  have F_law_draws := fun_mk (st := s_law_draws) l_law_draws c_law_draws k_law_draws
  have D_law_draws : Def K mg "_law_draws" s_law_draws := ⟨_, _, F_law_draws, PySem.W.mg_of X G a_law_draws⟩
  have F_moves_of := fun_mk (st := s_moves_of) l_moves_of c_moves_of k_moves_of
  have D_moves_of : Def K mg "moves_of" s_moves_of := ⟨_, _, F_moves_of, PySem.W.mg_of X G a_moves_of⟩
  have F_turning_of := fun_mk (st := s_turning_of) l_turning_of c_turning_of k_turning_of
  have D_turning_of : Def K mg "turning_of" s_turning_of := ⟨_, _, F_turning_of, PySem.W.mg_of X G a_turning_of⟩
  have F_standing_of := fun_mk (st := s_standing_of) l_standing_of c_standing_of k_standing_of
  have D_standing_of : Def K mg "standing_of" s_standing_of := ⟨_, _, F_standing_of, PySem.W.mg_of X G a_standing_of⟩
  have F_is_train := fun_mk (st := s_is_train) l_is_train c_is_train k_is_train
  have D_is_train : Def K mg "is_train" s_is_train := ⟨_, _, F_is_train, PySem.W.mg_of X G a_is_train⟩
  have F_refuse_no_train := fun_mk (st := s_refuse_no_train) l_refuse_no_train c_refuse_no_train k_refuse_no_train
  have D_refuse_no_train : Def K mg "refuse_no_train" s_refuse_no_train := ⟨_, _, F_refuse_no_train, PySem.W.mg_of X G a_refuse_no_train⟩
  have F_keeps_plays := fun_mk (st := s_keeps_plays) l_keeps_plays c_keeps_plays k_keeps_plays
  have D_keeps_plays : Def K mg "keeps_plays" s_keeps_plays := ⟨_, _, F_keeps_plays, PySem.W.mg_of X G a_keeps_plays⟩
  have F_is_stand := fun_mk (st := s_is_stand) l_is_stand c_is_stand k_is_stand
  have D_is_stand : Def K mg "is_stand" s_is_stand := ⟨_, _, F_is_stand, PySem.W.mg_of X G a_is_stand⟩
  have F_refuse_no_stand := fun_mk (st := s_refuse_no_stand) l_refuse_no_stand c_refuse_no_stand k_refuse_no_stand
  have D_refuse_no_stand : Def K mg "refuse_no_stand" s_refuse_no_stand := ⟨_, _, F_refuse_no_stand, PySem.W.mg_of X G a_refuse_no_stand⟩
  have F_dragged := fun_mk (st := s_dragged) l_dragged c_dragged k_dragged
  have D_dragged : Def K mg "dragged" s_dragged := ⟨_, _, F_dragged, PySem.W.mg_of X G a_dragged⟩
  have F_all_dragged := fun_mk (st := s_all_dragged) l_all_dragged c_all_dragged k_all_dragged
  have D_all_dragged : Def K mg "all_dragged" s_all_dragged := ⟨_, _, F_all_dragged, PySem.W.mg_of X G a_all_dragged⟩
  have F_run_of := fun_mk (st := s_run_of) l_run_of c_run_of k_run_of
  have D_run_of : Def K mg "run_of" s_run_of := ⟨_, _, F_run_of, PySem.W.mg_of X G a_run_of⟩
  have F_depths_of := fun_mk (st := s_depths_of) l_depths_of c_depths_of k_depths_of
  have D_depths_of : Def K mg "depths_of" s_depths_of := ⟨_, _, F_depths_of, PySem.W.mg_of X G a_depths_of⟩
  have F_hung_row := fun_mk (st := s_hung_row) l_hung_row c_hung_row k_hung_row
  have D_hung_row : Def K mg "hung_row" s_hung_row := ⟨_, _, F_hung_row, PySem.W.mg_of X G a_hung_row⟩
  have F_pieces_of := fun_mk (st := s_pieces_of) l_pieces_of c_pieces_of k_pieces_of
  have D_pieces_of : Def K mg "pieces_of" s_pieces_of := ⟨_, _, F_pieces_of, PySem.W.mg_of X G a_pieces_of⟩
  have F_refuse_no_errand := fun_mk (st := s_refuse_no_errand) l_refuse_no_errand c_refuse_no_errand k_refuse_no_errand
  have D_refuse_no_errand : Def K mg "refuse_no_errand" s_refuse_no_errand := ⟨_, _, F_refuse_no_errand, PySem.W.mg_of X G a_refuse_no_errand⟩
  have F_must_place := fun_mk (st := s_must_place) l_must_place c_must_place k_must_place
  have D_must_place : Def K mg "must_place" s_must_place := ⟨_, _, F_must_place, PySem.W.mg_of X G a_must_place⟩
  have F_side_to_go := fun_mk (st := s_side_to_go) l_side_to_go c_side_to_go k_side_to_go
  have D_side_to_go : Def K mg "side_to_go" s_side_to_go := ⟨_, _, F_side_to_go, PySem.W.mg_of X G a_side_to_go⟩
  have F_is_beyond := fun_mk (st := s_is_beyond) l_is_beyond c_is_beyond k_is_beyond
  have D_is_beyond : Def K mg "is_beyond" s_is_beyond := ⟨_, _, F_is_beyond, PySem.W.mg_of X G a_is_beyond⟩
  have F_first_musts := fun_mk (st := s_first_musts) l_first_musts c_first_musts k_first_musts
  have D_first_musts : Def K mg "first_musts" s_first_musts := ⟨_, _, F_first_musts, PySem.W.mg_of X G a_first_musts⟩
  have F_paper_of := fun_mk (st := s_paper_of) l_paper_of c_paper_of k_paper_of
  have D_paper_of : Def K mg "paper_of" s_paper_of := ⟨_, _, F_paper_of, PySem.W.mg_of X G a_paper_of⟩
  have F_least_row := fun_mk (st := s_least_row) l_least_row c_least_row k_least_row
  have D_least_row : Def K mg "least_row" s_least_row := ⟨_, _, F_least_row, PySem.W.mg_of X G a_least_row⟩
  have F_way_of := fun_mk (st := s_way_of) l_way_of c_way_of k_way_of
  have D_way_of : Def K mg "way_of" s_way_of := ⟨_, _, F_way_of, PySem.W.mg_of X G a_way_of⟩
  have F_least_of := fun_mk (st := s_least_of) l_least_of c_least_of k_least_of
  have D_least_of : Def K mg "least_of" s_least_of := ⟨_, _, F_least_of, PySem.W.mg_of X G a_least_of⟩
  have F_has_swing := fun_mk (st := s_has_swing) l_has_swing c_has_swing k_has_swing
  have D_has_swing : Def K mg "has_swing" s_has_swing := ⟨_, _, F_has_swing, PySem.W.mg_of X G a_has_swing⟩
  have F_swings_of := fun_mk (st := s_swings_of) l_swings_of c_swings_of k_swings_of
  have D_swings_of : Def K mg "swings_of" s_swings_of := ⟨_, _, F_swings_of, PySem.W.mg_of X G a_swings_of⟩
  have F_wheel_way := fun_mk (st := s_wheel_way) l_wheel_way c_wheel_way k_wheel_way
  have D_wheel_way : Def K mg "wheel_way" s_wheel_way := ⟨_, _, F_wheel_way, PySem.W.mg_of X G a_wheel_way⟩
  have F_law_case := fun_mk (st := s_law_case) l_law_case c_law_case k_law_case
  have D_law_case : Def K mg "_law_case" s_law_case := ⟨_, _, F_law_case, PySem.W.mg_of X G a_law_case⟩
  have F_law_told := fun_mk (st := s_law_told) l_law_told c_law_told k_law_told
  have D_law_told : Def K mg "_law_told" s_law_told := ⟨_, _, F_law_told, PySem.W.mg_of X G a_law_told⟩
  have F_law := fun_mk (st := s_law) l_law c_law k_law
  have D_law : Def K mg "law" s_law := ⟨_, _, F_law, PySem.W.mg_of X G a_law⟩
  refine ⟨PySem.W.fnOf "law" "law" (defArgs s_law) (defBody s_law) (defScope s_law) .none kV_law dc_law pm_law an_law cd_law ct_law, fun s v => .of_eq rfl, fun base _ _ => ?_⟩
  have C_law_draws := ok_law_draws (P := l.prog) (w := w) (base := base) T D_law_draws 
  have C_moves_of := ok_moves_of (P := l.prog) (w := w) (base := base) T D_moves_of 
  have C_turning_of := ok_turning_of (P := l.prog) (w := w) (base := base) T D_turning_of C_moves_of
  have C_standing_of := ok_standing_of (P := l.prog) (w := w) (base := base) T D_standing_of C_turning_of
  have C_is_train := ok_is_train (P := l.prog) (w := w) (base := base) T D_is_train 
  have C_refuse_no_train := ok_refuse_no_train (P := l.prog) (w := w) (base := base) T D_refuse_no_train C_is_train
  have C_keeps_plays := ok_keeps_plays (P := l.prog) (w := w) (base := base) T D_keeps_plays 
  have C_is_stand := ok_is_stand (P := l.prog) (w := w) (base := base) T D_is_stand C_refuse_no_train C_keeps_plays
  have C_refuse_no_stand := ok_refuse_no_stand (P := l.prog) (w := w) (base := base) T D_refuse_no_stand C_is_stand
  have C_dragged := ok_dragged (P := l.prog) (w := w) (base := base) T D_dragged 
  have C_all_dragged := ok_all_dragged (P := l.prog) (w := w) (base := base) T D_all_dragged C_dragged
  have C_run_of := ok_run_of (P := l.prog) (w := w) (base := base) T D_run_of C_refuse_no_stand C_all_dragged
  have C_depths_of := ok_depths_of (P := l.prog) (w := w) (base := base) T D_depths_of C_refuse_no_train
  have C_hung_row := ok_hung_row (P := l.prog) (w := w) (base := base) T D_hung_row C_dragged
  have C_pieces_of := ok_pieces_of (P := l.prog) (w := w) (base := base) T D_pieces_of 
  have C_refuse_no_errand := ok_refuse_no_errand (P := l.prog) (w := w) (base := base) T D_refuse_no_errand C_refuse_no_stand
  have C_must_place := ok_must_place (P := l.prog) (w := w) (base := base) T D_must_place C_refuse_no_stand C_pieces_of C_depths_of
  have C_side_to_go := ok_side_to_go (P := l.prog) (w := w) (base := base) T D_side_to_go C_pieces_of
  have C_is_beyond := ok_is_beyond (P := l.prog) (w := w) (base := base) T D_is_beyond C_pieces_of C_depths_of C_must_place
  have C_first_musts := ok_first_musts (P := l.prog) (w := w) (base := base) T D_first_musts C_side_to_go
  have C_paper_of := ok_paper_of (P := l.prog) (w := w) (base := base) T D_paper_of C_refuse_no_errand C_first_musts C_is_beyond
  have C_least_row := ok_least_row (P := l.prog) (w := w) (base := base) T D_least_row C_paper_of C_must_place
  have C_way_of := ok_way_of (P := l.prog) (w := w) (base := base) T D_way_of 
  have C_least_of := ok_least_of (P := l.prog) (w := w) (base := base) T D_least_of C_way_of C_least_row
  have C_has_swing := ok_has_swing (P := l.prog) (w := w) (base := base) T D_has_swing 
  have C_swings_of := ok_swings_of (P := l.prog) (w := w) (base := base) T D_swings_of C_turning_of C_has_swing
  have C_wheel_way := ok_wheel_way (P := l.prog) (w := w) (base := base) T D_wheel_way C_swings_of C_way_of C_hung_row
  have C_law_case := ok_law_case (P := l.prog) (w := w) (base := base) T D_law_case C_law_draws
  have C_law_told := ok_law_told (P := l.prog) (w := w) (base := base) T D_law_told C_run_of C_depths_of C_swings_of C_least_of C_wheel_way C_least_row C_standing_of C_turning_of C_paper_of
  exact ok_law F_law T C_law_case C_law_told
theorem walk {l : PySem.W.OpenLaw} {q : Program} {loose : List Str} {XP : (Str → Option Value) → Heap → Prop} {YP : World → Heap → Prop} {d : DefRec} {K : Params → PySem.W.Frag} (hn : l.most = some 63) (hdf : d.params.defaults = [])
    (hY : ∀ (w : World) (h : Heap), YP w h → (K w.params).In h)
    (F : ∀ (w : World) (mg : Str → Option Value) (fa : Addr) (h : Heap), (K w.params).In h → h.Ns mainGlobals mg → mg d.name = some (.ref fa) →
      ∃ fd : FuncData, (∀ (s : Shared) (u : Value), BindsTo s fd ⟨[u], []⟩ [("script", u)]) ∧ ∀ base : Heap, (K w.params).In base → base.Ns mainGlobals mg → FnOk l.prog w (K w.params) mg base CX0 11 fa fd ["script"] (spLaw (K w.params))) :
    PySem.W.WalkO q loose XP YP l.row.toRowW d [] (fun f vs => PySem.call f vs) :=
  L2.walk_of (n := 63) (k := 11) (x := "script") (CX := fun _ => CX0) (sp := fun w => spLaw (K w.params)) hn (by decide) hdf ⟨rfl, by decide, by decide⟩ hY F (fun _ _ a ns hl _ hS => ⟨a, ns, rfl, hS, hl, fun _ => rfl⟩) fun _ _ _ _ _ z => z
end My
theorem PySem.W.Fast.tw5463830136129533344 : True := trivial
theorem PySem.W.Fast.tw12432499867331831360 : True := trivial
theorem PySem.W.Fast.tw14233837182249516736 : True := trivial
theorem PySem.W.Fast.tw9500863480951445216 : True := trivial
theorem PySem.W.Fast.tw10489950056314103520 : True := trivial
theorem PySem.W.Fast.tw14043274553388317472 : True := trivial
theorem PySem.W.Fast.tw1397149332640539488 : True := trivial
theorem PySem.W.Fast.tw10167120334282267552 : True := trivial
theorem PySem.W.Fast.tw8154286151428161504 : True := trivial
theorem PySem.W.Fast.tw9349584481780615457 : True := trivial
theorem PySem.W.Fast.tw11448447584827804993 : True := trivial
theorem PySem.W.Fast.tw3293532317941447041 : True := trivial
theorem PySem.W.Fast.tw2359635038624174753 : True := trivial
theorem PySem.W.Fast.tw10305372932959730497 : True := trivial
theorem PySem.W.Fast.tw11430545267514141505 : True := trivial
theorem PySem.W.Fast.tw17486224790652606305 : True := trivial
theorem PySem.W.Fast.tw7067558810621378465 : True := trivial
theorem PySem.W.Fast.tw4916332200283202562 : True := trivial
theorem PySem.W.Fast.tw3405473241857960194 : True := trivial
theorem PySem.W.Fast.tw9307586232746675490 : True := trivial
theorem PySem.W.Fast.tw16474691094814028098 : True := trivial
theorem PySem.W.Fast.tw11267284475228986946 : True := trivial
theorem PySem.W.Fast.tw8464845113809009474 : True := trivial
theorem PySem.W.Fast.tw5560241924518910882 : True := trivial
theorem PySem.W.Fast.tw9222815966799321091 : True := trivial
theorem PySem.W.Fast.tw16209621766371236931 : True := trivial
theorem PySem.W.Fast.tw16726974603177185443 : True := trivial
theorem PySem.W.Fast.tw4313801708568086723 : True := trivial
theorem PySem.W.Fast.tw17639371894484036867 : True := trivial
theorem PySem.W.Fast.tw323395678013593187 : True := trivial
theorem PySem.W.Fast.tw12697254293608800035 : True := trivial
theorem PySem.W.Fast.tw12202623420940017443 : True := trivial
theorem PySem.W.Fast.tw1744936195868347363 : True := trivial
theorem PySem.W.Fast.tw2847617727813034148 : True := trivial
theorem PySem.W.Fast.tw159592974412175716 : True := trivial
theorem PySem.W.Fast.tw14204356322625135044 : True := trivial
theorem PySem.W.Fast.tw7844766225280122532 : True := trivial
theorem PySem.W.Fast.tw14273890464029572900 : True := trivial
theorem PySem.W.Fast.tw12012999943087866724 : True := trivial
theorem PySem.W.Fast.tw11892260151098269540 : True := trivial
theorem PySem.W.Fast.tw2135904094963508100 : True := trivial
theorem PySem.W.Fast.tw8197680915984335780 : True := trivial
theorem PySem.W.Fast.tw16387483044404487269 : True := trivial
theorem PySem.W.Fast.tw2399039976175800677 : True := trivial
theorem PySem.W.Fast.tw15153748325385428357 : True := trivial
theorem PySem.W.Fast.tw13081310111932873189 : True := trivial
theorem PySem.W.Fast.tw11019346302935347717 : True := trivial
theorem PySem.W.Fast.tw12587317785321804677 : True := trivial
theorem PySem.W.Fast.tw4880847724648350597 : True := trivial
theorem PySem.W.Fast.tw6186769060599786534 : True := trivial
theorem PySem.W.Fast.tw18285275750454230214 : True := trivial
theorem PySem.W.Fast.tw14421821906148073030 : True := trivial
theorem PySem.W.Fast.tw7532719879881845414 : True := trivial
theorem PySem.W.Fast.tw9977139505380842182 : True := trivial
theorem PySem.W.Fast.tw6156011104558967590 : True := trivial
theorem PySem.W.Fast.tw3397652929324657478 : True := trivial
theorem PySem.W.Fast.tw2348653475181618054 : True := trivial
theorem PySem.W.Fast.tw282411815625929702 : True := trivial
theorem PySem.W.Fast.tw2617475443848271911 : True := trivial
theorem PySem.W.Fast.tw12041439143882210407 : True := trivial
theorem PySem.W.Fast.tw256016638558053575 : True := trivial
theorem PySem.W.Fast.tw12326785031776277799 : True := trivial
theorem PySem.W.Fast.tw9599081464798475591 : True := trivial
theorem PySem.W.Fast.tw3996457198823033383 : True := trivial
theorem PySem.W.Fast.tw1662177718730458695 : True := trivial
theorem PySem.W.Fast.tw10585875798345792071 : True := trivial
theorem PySem.W.Fast.tw17386631871143552615 : True := trivial
theorem PySem.W.Fast.tw15700148166937413255 : True := trivial
theorem PySem.W.Fast.tw5151327369173559047 : True := trivial
theorem PySem.W.Fast.tw6178424491312049288 : True := trivial
theorem PySem.W.Fast.tw11558798121166072008 : True := trivial
theorem PySem.W.Fast.tw8991192893888383208 : True := trivial
theorem PySem.W.Fast.tw319071678234777864 : True := trivial
theorem PySem.W.Fast.tw5159448335711611240 : True := trivial
theorem PySem.W.Fast.tw3739549190092803624 : True := trivial
theorem PySem.W.Fast.tw10117919363580363400 : True := trivial
theorem PySem.W.Fast.tw5799435944827560680 : True := trivial
theorem PySem.W.Fast.tw8187271389702062856 : True := trivial
theorem PySem.W.Fast.tw11687256309455899400 : True := trivial
theorem PySem.W.Fast.tw17650349758253856552 : True := trivial
theorem PySem.W.Fast.tw11130357855382171464 : True := trivial
theorem PySem.W.Fast.tw7727132288706451336 : True := trivial
theorem PySem.W.Fast.tw16194224780279325705 : True := trivial
theorem PySem.W.Fast.tw16961234652314107945 : True := trivial
theorem PySem.W.Fast.tw9159438899320589449 : True := trivial
theorem PySem.W.Fast.tw8279669669177800937 : True := trivial
theorem PySem.W.Fast.tw5670471919889102217 : True := trivial
theorem PySem.W.Fast.tw2984599960684980777 : True := trivial
theorem PySem.W.Fast.tw9470358637973248937 : True := trivial
theorem PySem.W.Fast.tw6000807998951160906 : True := trivial
theorem PySem.W.Fast.tw13532446159693494410 : True := trivial
theorem PySem.W.Fast.tw1338311404117182634 : True := trivial
theorem PySem.W.Fast.tw18304760246645769450 : True := trivial
theorem PySem.W.Fast.tw9145608470851154250 : True := trivial
theorem PySem.W.Fast.tw11424524930873476490 : True := trivial
theorem PySem.W.Fast.tw16477386646693563850 : True := trivial
theorem PySem.W.Fast.tw3537173191981959626 : True := trivial
theorem PySem.W.Fast.tw5853022689862112746 : True := trivial
theorem PySem.W.Fast.tw3301251354811548298 : True := trivial
theorem PySem.W.Fast.tw7784292522947843882 : True := trivial
theorem PySem.W.Fast.tw3577166897653975946 : True := trivial
theorem PySem.W.Fast.tw13149331679956320170 : True := trivial
theorem PySem.W.Fast.tw8600478638673856555 : True := trivial
theorem PySem.W.Fast.tw6402945685430832555 : True := trivial
theorem PySem.W.Fast.tw10852965065218614795 : True := trivial
theorem PySem.W.Fast.tw11225245345271579339 : True := trivial
theorem PySem.W.Fast.tw3482810979189844939 : True := trivial
theorem PySem.W.Fast.tw7969514007292956716 : True := trivial
theorem PySem.W.Fast.tw3177412565449859148 : True := trivial
theorem PySem.W.Fast.tw6583533224152940908 : True := trivial
theorem PySem.W.Fast.tw5894321759154343436 : True := trivial
theorem PySem.W.Fast.tw6947230753637329580 : True := trivial
theorem PySem.W.Fast.tw18609525199848140 : True := trivial
theorem PySem.W.Fast.tw2569566486614072044 : True := trivial
theorem PySem.W.Fast.tw3829675272567097100 : True := trivial
theorem PySem.W.Fast.tw1309405104554702796 : True := trivial
theorem PySem.W.Fast.tw2541088791684338733 : True := trivial
theorem PySem.W.Fast.tw6963350309334549581 : True := trivial
theorem PySem.W.Fast.tw2895459380287773901 : True := trivial
theorem PySem.W.Fast.tw9263285486467576045 : True := trivial
theorem PySem.W.Fast.tw14906754426274440557 : True := trivial
theorem PySem.W.Fast.tw16209529707910051245 : True := trivial
theorem PySem.W.Fast.tw11414053964419182029 : True := trivial
theorem PySem.W.Fast.tw6207483191972848237 : True := trivial
theorem PySem.W.Fast.tw10399908831647314605 : True := trivial
theorem PySem.W.Fast.tw7895769401497178861 : True := trivial
theorem PySem.W.Fast.tw1610876155911921453 : True := trivial
theorem PySem.W.Fast.tw184390735724110669 : True := trivial
theorem PySem.W.Fast.tw2207573373134354285 : True := trivial
theorem PySem.W.Fast.tw492662416329333806 : True := trivial
theorem PySem.W.Fast.tw4150962167228847182 : True := trivial
theorem PySem.W.Fast.tw4009646312876582222 : True := trivial
theorem PySem.W.Fast.tw8054578567147017774 : True := trivial
theorem PySem.W.Fast.tw4828147867698712238 : True := trivial
theorem PySem.W.Fast.tw13362745880035383022 : True := trivial
theorem PySem.W.Fast.tw4864775725917823279 : True := trivial
theorem PySem.W.Fast.tw15442085334420725359 : True := trivial
theorem PySem.W.Fast.tw3000405351532361327 : True := trivial
theorem PySem.W.Fast.tw10489661252850788015 : True := trivial
theorem PySem.W.Fast.tw16154092293965118191 : True := trivial
theorem PySem.W.Fast.tw9052556346233932848 : True := trivial
theorem PySem.W.Fast.tw16580584408260872272 : True := trivial
theorem PySem.W.Fast.tw1575260274912102672 : True := trivial
theorem PySem.W.Fast.tw11668942670796477936 : True := trivial
theorem PySem.W.Fast.tw9360237010346010512 : True := trivial
theorem PySem.W.Fast.tw9352882125635991729 : True := trivial
theorem PySem.W.Fast.tw2972304699284018385 : True := trivial
theorem PySem.W.Fast.tw9554513502397487313 : True := trivial
theorem PySem.W.Fast.tw6545712614426337521 : True := trivial
theorem PySem.W.Fast.tw16445080932604516657 : True := trivial
theorem PySem.W.Fast.tw10154327203520431186 : True := trivial
theorem PySem.W.Fast.tw7426690900903655538 : True := trivial
theorem PySem.W.Fast.tw6289431017153156370 : True := trivial
theorem PySem.W.Fast.tw9516157509600650738 : True := trivial
theorem PySem.W.Fast.tw12567479782807180818 : True := trivial
theorem PySem.W.Fast.tw6214043114645235250 : True := trivial
theorem PySem.W.Fast.tw6069445236008458834 : True := trivial
theorem PySem.W.Fast.tw3013079109545080434 : True := trivial
theorem PySem.W.Fast.tw7565320718287885970 : True := trivial
theorem PySem.W.Fast.tw12419345504685707154 : True := trivial
theorem PySem.W.Fast.tw3576144952559332851 : True := trivial
theorem PySem.W.Fast.tw11983513202332280339 : True := trivial
theorem PySem.W.Fast.tw10909506223908042323 : True := trivial
theorem PySem.W.Fast.tw6247529232081182323 : True := trivial
theorem PySem.W.Fast.tw3991670523835461235 : True := trivial
theorem PySem.W.Fast.tw18040440569974203091 : True := trivial
theorem PySem.W.Fast.tw4013837065747989299 : True := trivial
theorem PySem.W.Fast.tw451100237588711219 : True := trivial
theorem PySem.W.Fast.tw13008048570473799635 : True := trivial
theorem PySem.W.Fast.tw5978302398198051092 : True := trivial
theorem PySem.W.Fast.tw12633040896299134260 : True := trivial
theorem PySem.W.Fast.tw4459379679716715924 : True := trivial
theorem PySem.W.Fast.tw5759699407797349780 : True := trivial
theorem PySem.W.Fast.tw9186219886815721108 : True := trivial
theorem PySem.W.Fast.tw3788757935686381364 : True := trivial
theorem PySem.W.Fast.tw4038280542343330869 : True := trivial
theorem PySem.W.Fast.tw14847828433932456181 : True := trivial
theorem PySem.W.Fast.tw17624572727136464245 : True := trivial
theorem PySem.W.Fast.tw8529880563682518613 : True := trivial
theorem PySem.W.Fast.tw16039959690369502837 : True := trivial
theorem PySem.W.Fast.tw13468180483040721398 : True := trivial
theorem PySem.W.Fast.tw10275460740442475062 : True := trivial
theorem PySem.W.Fast.tw15246744314637526646 : True := trivial
theorem PySem.W.Fast.tw14602411923512799894 : True := trivial
theorem PySem.W.Fast.tw3320555963893737238 : True := trivial
theorem PySem.W.Fast.tw5079138588422912854 : True := trivial
theorem PySem.W.Fast.tw13880137896766883734 : True := trivial
theorem PySem.W.Fast.tw6696135771478651830 : True := trivial
theorem PySem.W.Fast.tw16649157306607222774 : True := trivial
theorem PySem.W.Fast.tw9473468153940930550 : True := trivial
theorem PySem.W.Fast.tw9242032399183475702 : True := trivial
theorem PySem.W.Fast.tw17560198522702805335 : True := trivial
theorem PySem.W.Fast.tw13931324350324978007 : True := trivial
theorem PySem.W.Fast.tw14275344560015885911 : True := trivial
theorem PySem.W.Fast.tw8380463990536365751 : True := trivial
theorem PySem.W.Fast.tw3406717353803890583 : True := trivial
theorem PySem.W.Fast.tw13339230110243024920 : True := trivial
theorem PySem.W.Fast.tw8811512322252307544 : True := trivial
theorem PySem.W.Fast.tw11565319693373173080 : True := trivial
theorem PySem.W.Fast.tw9318552958816684408 : True := trivial
theorem PySem.W.Fast.tw8374710033896537528 : True := trivial
theorem PySem.W.Fast.tw15682390075350733496 : True := trivial
theorem PySem.W.Fast.tw9438749598462446617 : True := trivial
theorem PySem.W.Fast.tw14429819396411350041 : True := trivial
theorem PySem.W.Fast.tw12003994491285131385 : True := trivial
theorem PySem.W.Fast.tw14711185380096447641 : True := trivial
theorem PySem.W.Fast.tw17171136555175304409 : True := trivial
theorem PySem.W.Fast.tw8039007582792184217 : True := trivial
theorem PySem.W.Fast.tw985611605462598073 : True := trivial
theorem PySem.W.Fast.tw2896010250181711289 : True := trivial
theorem PySem.W.Fast.tw14469985804610531833 : True := trivial
theorem PySem.W.Fast.tw2045400098537935449 : True := trivial
theorem PySem.W.Fast.tw1293345502054731385 : True := trivial
theorem PySem.W.Fast.tw369195616638426234 : True := trivial
theorem PySem.W.Fast.tw7916197854599856282 : True := trivial
theorem PySem.W.Fast.tw15242129692533428474 : True := trivial
theorem PySem.W.Fast.tw14715654093238301946 : True := trivial
theorem PySem.W.Fast.tw6605907096174245210 : True := trivial
theorem PySem.W.Fast.tw13298308973479729498 : True := trivial
theorem PySem.W.Fast.tw18173649029195679194 : True := trivial
theorem PySem.W.Fast.tw2081608663914372858 : True := trivial
theorem PySem.W.Fast.tw7029016056030836506 : True := trivial
theorem PySem.W.Fast.tw12019289496216769595 : True := trivial
theorem PySem.W.Fast.tw8316153795636298907 : True := trivial
theorem PySem.W.Fast.tw11398453921344246971 : True := trivial
theorem PySem.W.Fast.tw11032051955717730555 : True := trivial
theorem PySem.W.Fast.tw7344199430170556667 : True := trivial
theorem PySem.W.Fast.tw17977296362271894875 : True := trivial
theorem PySem.W.Fast.tw3963722300879033691 : True := trivial
theorem PySem.W.Fast.tw3958832500890226043 : True := trivial
theorem PySem.W.Fast.tw13280020292625132027 : True := trivial
theorem PySem.W.Fast.tw8874604189928854075 : True := trivial
theorem PySem.W.Fast.tw12950519704350569051 : True := trivial
theorem PySem.W.Fast.tw7360246445773130459 : True := trivial
theorem PySem.W.Fast.tw15239621913722025691 : True := trivial
theorem PySem.W.Fast.tw3674951269073247995 : True := trivial
theorem PySem.W.Fast.tw7257698216027465659 : True := trivial
theorem PySem.W.Fast.tw11244661201437001659 : True := trivial
theorem PySem.W.Fast.tw10589115333912259676 : True := trivial
theorem PySem.W.Fast.tw10257655315616337020 : True := trivial
theorem PySem.W.Fast.tw8062370954328172732 : True := trivial
theorem PySem.W.Fast.tw350097183483132252 : True := trivial
theorem PySem.W.Fast.tw16360816118276467164 : True := trivial
theorem PySem.W.Fast.tw10526678437542395612 : True := trivial
theorem PySem.W.Fast.tw7790199956654972 : True := trivial
theorem PySem.W.Fast.tw4471425375187581021 : True := trivial
theorem PySem.W.Fast.tw12311206471551566973 : True := trivial
theorem PySem.W.Fast.tw964903385284051293 : True := trivial
theorem PySem.W.Fast.tw1657675441850460733 : True := trivial
theorem PySem.W.Fast.tw17395267235374767805 : True := trivial
theorem PySem.W.Fast.tw16475629274624945949 : True := trivial
theorem PySem.W.Fast.tw12951927170507959101 : True := trivial
theorem PySem.W.Fast.tw17268586934359600957 : True := trivial
theorem PySem.W.Fast.tw7905518937759602557 : True := trivial
theorem PySem.W.Fast.tw5536181912996053086 : True := trivial
theorem PySem.W.Fast.tw5632484448411121950 : True := trivial
theorem PySem.W.Fast.tw13849443979649278334 : True := trivial
theorem PySem.W.Fast.tw5101008093821288830 : True := trivial
theorem PySem.W.Fast.tw2631231843522621022 : True := trivial
theorem PySem.W.Fast.tw9099299655029459678 : True := trivial
theorem PySem.W.Fast.tw7765202791834691454 : True := trivial
theorem PySem.W.Fast.tw15518759039762610110 : True := trivial
theorem PySem.W.Fast.tw5979251809018003454 : True := trivial
theorem PySem.W.Fast.tw10629797782132612159 : True := trivial
theorem PySem.W.Fast.tw15432523827885836383 : True := trivial
theorem PySem.W.Fast.tw7232211271168405087 : True := trivial
theorem PySem.W.Fast.tw5119035343925420831 : True := trivial
theorem PySem.W.Fast.tw9685609956812302303 : True := trivial
open PySem PySem.W PyProof.Rows
set_option maxRecDepth 100000 in
set_option maxHeartbeats 0 in
theorem PySem.Challenge.cw_lugtrain_k33_numbers_of_any_size_holds : PySem.Challenge.rw_lugtrain_k33_numbers_of_any_size.Holds := by
  w_on; o_law; k_head; (case hw => w_witness2)
  k_fill
  refine My.walk (l := PySem.Challenge.rw_lugtrain_k33_numbers_of_any_size) rfl rfl (fun w h Y => PySem.W.kIn_of Y) ?F
  case F =>
    intro w mg fa h KX G hmg
    refine' My.all_mk KX G hmg ?a_law_draws ?l_law_draws ?c_law_draws ?k_law_draws ?a_moves_of ?l_moves_of ?c_moves_of ?k_moves_of ?a_turning_of ?l_turning_of ?c_turning_of ?k_turning_of ?a_standing_of ?l_standing_of ?c_standing_of ?k_standing_of ?a_is_train ?l_is_train ?c_is_train ?k_is_train ?a_refuse_no_train ?l_refuse_no_train ?c_refuse_no_train ?k_refuse_no_train ?a_keeps_plays ?l_keeps_plays ?c_keeps_plays ?k_keeps_plays ?a_is_stand ?l_is_stand ?c_is_stand ?k_is_stand ?a_refuse_no_stand ?l_refuse_no_stand ?c_refuse_no_stand ?k_refuse_no_stand ?a_dragged ?l_dragged ?c_dragged ?k_dragged ?a_all_dragged ?l_all_dragged ?c_all_dragged ?k_all_dragged ?a_run_of ?l_run_of ?c_run_of ?k_run_of ?a_depths_of ?l_depths_of ?c_depths_of ?k_depths_of ?a_hung_row ?l_hung_row ?c_hung_row ?k_hung_row ?a_pieces_of ?l_pieces_of ?c_pieces_of ?k_pieces_of ?a_refuse_no_errand ?l_refuse_no_errand ?c_refuse_no_errand ?k_refuse_no_errand ?a_must_place ?l_must_place ?c_must_place ?k_must_place ?a_side_to_go ?l_side_to_go ?c_side_to_go ?k_side_to_go ?a_is_beyond ?l_is_beyond ?c_is_beyond ?k_is_beyond ?a_first_musts ?l_first_musts ?c_first_musts ?k_first_musts ?a_paper_of ?l_paper_of ?c_paper_of ?k_paper_of ?a_least_row ?l_least_row ?c_least_row ?k_least_row ?a_way_of ?l_way_of ?c_way_of ?k_way_of ?a_least_of ?l_least_of ?c_least_of ?k_least_of ?a_has_swing ?l_has_swing ?c_has_swing ?k_has_swing ?a_swings_of ?l_swings_of ?c_swings_of ?k_swings_of ?a_wheel_way ?l_wheel_way ?c_wheel_way ?k_wheel_way ?a_law_case ?l_law_case ?c_law_case ?k_law_case ?a_law_told ?l_law_told ?c_law_told ?k_law_told ?a_law ?l_law ?c_law ?k_law ?z_abs ?z_enumerate ?z_int ?z_len ?z_max ?z_min ?z_range ?z_sum ?z_zip ?g_MOST_PLAYS
    (case a_law_draws => k_is)
    (case l_law_draws => k_is)
    (case c_law_draws => k_is)
    (case k_law_draws => k_is)
    (case a_moves_of => k_is)
    (case l_moves_of => k_is)
    (case c_moves_of => k_is)
    (case k_moves_of => k_is)
    (case a_turning_of => k_is)
    (case l_turning_of => k_is)
    (case c_turning_of => k_is)
    (case k_turning_of => k_is)
    (case a_standing_of => k_is)
    (case l_standing_of => k_is)
    (case c_standing_of => k_is)
    (case k_standing_of => k_is)
    (case a_is_train => k_is)
    (case l_is_train => k_is)
    (case c_is_train => k_is)
    (case k_is_train => k_is)
    (case a_refuse_no_train => k_is)
    (case l_refuse_no_train => k_is)
    (case c_refuse_no_train => k_is)
    (case k_refuse_no_train => k_is)
    (case a_keeps_plays => k_is)
    (case l_keeps_plays => k_is)
    (case c_keeps_plays => k_is)
    (case k_keeps_plays => k_is)
    (case a_is_stand => k_is)
    (case l_is_stand => k_is)
    (case c_is_stand => k_is)
    (case k_is_stand => k_is)
    (case a_refuse_no_stand => k_is)
    (case l_refuse_no_stand => k_is)
    (case c_refuse_no_stand => k_is)
    (case k_refuse_no_stand => k_is)
    (case a_dragged => k_is)
    (case l_dragged => k_is)
    (case c_dragged => k_is)
    (case k_dragged => k_is)
    (case a_all_dragged => k_is)
    (case l_all_dragged => k_is)
    (case c_all_dragged => k_is)
    (case k_all_dragged => k_is)
    (case a_run_of => k_is)
    (case l_run_of => k_is)
    (case c_run_of => k_is)
    (case k_run_of => k_is)
    (case a_depths_of => k_is)
    (case l_depths_of => k_is)
    (case c_depths_of => k_is)
    (case k_depths_of => k_is)
    (case a_hung_row => k_is)
    (case l_hung_row => k_is)
    (case c_hung_row => k_is)
    (case k_hung_row => k_is)
    (case a_pieces_of => k_is)
    (case l_pieces_of => k_is)
    (case c_pieces_of => k_is)
    (case k_pieces_of => k_is)
    (case a_refuse_no_errand => k_is)
    (case l_refuse_no_errand => k_is)
    (case c_refuse_no_errand => k_is)
    (case k_refuse_no_errand => k_is)
    (case a_must_place => k_is)
    (case l_must_place => k_is)
    (case c_must_place => k_is)
    (case k_must_place => k_is)
    (case a_side_to_go => k_is)
    (case l_side_to_go => k_is)
    (case c_side_to_go => k_is)
    (case k_side_to_go => k_is)
    (case a_is_beyond => k_is)
    (case l_is_beyond => k_is)
    (case c_is_beyond => k_is)
    (case k_is_beyond => k_is)
    (case a_first_musts => k_is)
    (case l_first_musts => k_is)
    (case c_first_musts => k_is)
    (case k_first_musts => k_is)
    (case a_paper_of => k_is)
    (case l_paper_of => k_is)
    (case c_paper_of => k_is)
    (case k_paper_of => k_is)
    (case a_least_row => k_is)
    (case l_least_row => k_is)
    (case c_least_row => k_is)
    (case k_least_row => k_is)
    (case a_way_of => k_is)
    (case l_way_of => k_is)
    (case c_way_of => k_is)
    (case k_way_of => k_is)
    (case a_least_of => k_is)
    (case l_least_of => k_is)
    (case c_least_of => k_is)
    (case k_least_of => k_is)
    (case a_has_swing => k_is)
    (case l_has_swing => k_is)
    (case c_has_swing => k_is)
    (case k_has_swing => k_is)
    (case a_swings_of => k_is)
    (case l_swings_of => k_is)
    (case c_swings_of => k_is)
    (case k_swings_of => k_is)
    (case a_wheel_way => k_is)
    (case l_wheel_way => k_is)
    (case c_wheel_way => k_is)
    (case k_wheel_way => k_is)
    (case a_law_case => k_is)
    (case l_law_case => k_is)
    (case c_law_case => k_is)
    (case k_law_case => k_is)
    (case a_law_told => k_is)
    (case l_law_told => k_is)
    (case c_law_told => k_is)
    (case k_law_told => k_is)
    (case a_law => k_is)
    (case l_law => k_is)
    (case c_law => k_is)
    (case k_law => k_is)
    (case z_abs => k_is)
    (case z_enumerate => k_is)
    (case z_int => k_is)
    (case z_len => k_is)
    (case z_max => k_is)
    (case z_min => k_is)
    (case z_range => k_is)
    (case z_sum => k_is)
    (case z_zip => k_is)
    (case g_MOST_PLAYS => k_is)

